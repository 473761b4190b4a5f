"""[1.1], [1.2], [1.5]: towns, their movements, and ways out."""

import random
import unittest

from greenheld.towns import (clearance, crossing_of, do_cross, exits, is_town, judge_town, judge_way_out,
                             movements_from, movements_into, reached_from, shut_queues, way_out)
from tests.support import EAST, ODD_VALUES, TOWN, plain_int, same, towns, within

ONE = (((0, None),), (), 12)


def plain_crossing(value, n):
    """Whether it is a crossing, as the words of [1.1] tell it one by one."""
    if type(value) is not tuple or len(value) != 3:
        return False
    moves, crossed, length = value
    if type(moves) is not tuple or type(crossed) is not tuple or not plain_int(length):
        return False
    for k, move in enumerate(moves):
        if type(move) is not tuple or len(move) != 2 or not plain_int(move[0]) or move[0] not in range(n):
            return False
        if move[1] is not None and (not plain_int(move[1]) or move[1] not in range(n) or move[1] == move[0]):
            return False
        if move in moves[:k]:
            return False
    for row in crossed:
        if type(row) is not tuple or len(row) != 4 or not all(plain_int(number) for number in row):
            return False
        if not 0 <= row[0] < row[1] < len(moves) or row[2] not in range(31) or row[3] not in range(31):
            return False
    pairs = [row[:2] for row in crossed]
    return moves != () and pairs == sorted(set(pairs)) and 1 <= length <= 120


def plain_judge_town(value):
    if type(value) is not tuple or len(value) != 2 or not plain_int(value[0]) or not 1 <= value[0] <= 24:
        return ("form",)
    n, crossings = value
    if type(crossings) is not tuple or not 1 <= len(crossings) <= 8:
        return ("form",)
    for x, crossing in enumerate(crossings):
        if not plain_crossing(crossing, n):
            return ("crossing", x)
    for x, crossing in enumerate(crossings):
        if crossing[2] != crossings[0][2]:
            return ("length", x)
    for q in range(n):
        if sum(any(move[0] == q for move in crossing[0]) for crossing in crossings) >= 2:
            return ("queue", q)
    return None


class Towns(unittest.TestCase):
    def judged(self, value, fault):
        self.assertTrue(same(judge_town(value), fault), (value, judge_town(value), fault))
        self.assertIs(is_town(value), fault is None)

    def test_right_towns(self):
        self.judged(TOWN, None)
        for town in towns(60):
            self.judged(town, None)

    def test_queues_from_1_to_24(self):
        for n in (1, 2, 23, 24):
            self.judged((n, (ONE,)), None)
        for n in (-1, 0, 25, 10 ** 59, True, False, None, "1", (1,), [1]):
            self.judged((n, (ONE,)), ("form",))

    def test_one_to_eight_crossings(self):
        eight = tuple((((q, None),), (), 12) for q in range(8))
        for many in range(1, 9):
            self.judged((9, eight[:many]), None)
        self.judged((9, eight + ((((8, None),), (), 12),)), ("form",))
        self.judged((9, ()), ("form",))
        self.judged((9, list(eight)), ("form",))
        self.judged((9, (None,) * 8), ("crossing", 0))
        self.judged((9, (None,) * 9), ("form",))

    def test_pairs_too_short_and_too_long(self):
        for value in ((), (4,), (4, TOWN[1], 0), list(TOWN), (TOWN[1], 4)):
            self.judged(value, ("form",))

    def test_movements(self):
        for moves in ((), ((0,),), ((0, 1, 2),), ([0, 1],), [(0, 1)], ((0, 0),), ((0, 4),), ((4, 0),), ((-1, 0),),
                      ((0, -1),), ((0, 1), (0, 1)), ((0, None), (1, 2), (0, None)), ((True, None),), ((0, True),),
                      ((1, False),), ((None, 0),), (("0", 1),), ((0, "out"),), ((0, ()),), {}, None, ((0, [1]),)):
            self.judged((4, ((moves, (), 12),)), ("crossing", 0))
        self.judged((4, ((((0, 3), (3, 0), (0, None), (0, 1)), (), 12),)), None)

    def test_crossed(self):
        moves = ((0, None), (1, None), (2, None))
        for crossed in (((0, 1, 0, 0),), ((0, 1, 30, 30),), ((0, 2, 0, 30), (1, 2, 30, 0)),
                        ((0, 1, 1, 2), (0, 2, 1, 2), (1, 2, 1, 2))):
            self.judged((4, ((moves, crossed, 12),)), None)
        for crossed in (((1, 0, 0, 0),), ((1, 1, 0, 0),), ((0, 3, 0, 0),), ((-1, 1, 0, 0),), ((0, 1, 31, 0),),
                        ((0, 1, 0, 31),), ((0, 1, -1, 0),), ((0, 1, 0, -1),), ((0, 1, 0),), ((0, 1, 0, 0, 0),),
                        ([0, 1, 0, 0],), [(0, 1, 0, 0)], ((0, 2, 0, 0), (0, 1, 0, 0)), ((1, 2, 0, 0), (0, 1, 0, 0)),
                        ((0, 1, 0, 0), (0, 1, 0, 0)), ((0, 1, 0, 0), (0, 1, 1, 1)), ((False, 1, 0, 0),),
                        ((0, True, 0, 0),), ((0, 1, True, 0),), ((0, 1, 0, False),), ((0, 1, None, 0),), None, ((),)):
            self.judged((4, ((moves, crossed, 12),)), ("crossing", 0))

    def test_more_movements_than_the_greatest_clearance(self):
        moves = tuple((q, to) for q in range(7) for to in range(7) if to != q)
        self.judged((7, ((moves, ((0, 41, 30, 30), (40, 41, 0, 0)), 12),)), None)
        self.judged((7, ((moves, ((0, 42, 30, 30),), 12),)), ("crossing", 0))

    def test_lengths(self):
        for length in (1, 2, 119, 120):
            self.judged((1, ((((0, None),), (), length),)), None)
        for length in (0, -1, 121, True, None, "12", (12,), 10 ** 60 - 1):
            self.judged((1, ((((0, None),), (), length),)), ("crossing", 0))

    def test_the_sequence_of_faults(self):
        other, long = (((1, None),), (), 12), (((2, None),), (), 13)
        self.judged((3, (ONE, other, ONE)), ("queue", 0))
        self.judged((3, (ONE, other, other, ONE)), ("queue", 0))
        self.judged((3, (ONE, other, other)), ("queue", 1))
        self.judged((3, (ONE, long, other)), ("length", 1))
        self.judged((3, (long, ONE, other)), ("length", 1))
        self.judged((3, (ONE, ONE, long)), ("length", 2))
        self.judged((3, (ONE, long, None, 5)), ("crossing", 2))
        self.judged((2, (ONE, other, long)), ("crossing", 2))
        self.judged((2, (ONE, (((0, None), (2, None)), (), 12))), ("crossing", 1))
        self.judged((0, (None,)), ("form",))

    def test_a_queue_may_stand_often_at_one_crossing(self):
        self.judged((3, ((((0, None), (0, 1), (0, 2)), (), 12),)), None)
        self.judged((3, ((((0, 1),), (), 12), (((1, 0),), (), 12))), None)

    def test_any_value(self):
        for value in ODD_VALUES:
            self.judged(value, ("form",))
            self.judged((3, value), plain_judge_town((3, value)))
            self.judged((3, (ONE, value)), ("crossing", 1))

    def test_towns_with_one_thing_changed(self):
        for town in [TOWN] + towns(5, seed=7):
            for value in within(town):
                self.judged(value, plain_judge_town(value))


class Movements(unittest.TestCase):
    def test_by_the_words(self):
        for town in [TOWN] + towns(60, seed=2):
            moves = [(x, i, move) for x, crossing in enumerate(town[1]) for i, move in enumerate(crossing[0])]
            for q in range(town[0]):
                mine = [(x, i) for x, i, move in moves if move[0] == q]
                self.assertEqual(crossing_of(town, q), mine[0][0] if mine else None)
                self.assertTrue(same(movements_from(town, q), tuple(i for _, i in mine)))
                self.assertTrue(same(movements_into(town, q), tuple((x, i) for x, i, move in moves if move[1] == q)))
            self.assertTrue(same(exits(town), tuple((x, i) for x, i, move in moves if move[1] is None)))

    def test_queue_0_is_not_the_way_out(self):
        town = (2, ((((1, 0), (0, None)), (), 5),))
        self.assertEqual([exits(town), movements_into(town, 0), movements_into(town, 1)], [((0, 1),), ((0, 0),), ()])

    def test_a_queue_without_movements(self):
        town = (3, ((((0, 2),), (), 5),))
        self.assertEqual([crossing_of(town, 1), movements_from(town, 1), movements_into(town, 1)], [None, (), ()])

    def test_crossed_ones_and_clearances(self):
        self.assertEqual([clearance(EAST, 0, 1), clearance(EAST, 1, 0), clearance(EAST, 0, 2), clearance(EAST, 2, 0)],
                         [2, 3, 1, 1])
        for town in [TOWN] + towns(30, seed=3):
            for crossing in town[1]:
                told = {}
                for i, j, ahead, behind in crossing[1]:
                    told[i, j], told[j, i] = ahead, behind
                for i in range(len(crossing[0])):
                    for j in range(len(crossing[0])):
                        self.assertIs(do_cross(crossing, i, j), (i, j) in told)
                        self.assertEqual(clearance(crossing, i, j), told.get((i, j), 0))


def plain_ways(town, q):
    """All ways out of the queue with the fewest movements, by trying all rows of movements."""
    rows = [((), q)]
    for _ in range(town[0]):
        grown = []
        for way, at in rows:
            for x, crossing in enumerate(town[1]):
                for i, (start, to) in enumerate(crossing[0]):
                    if start == at:
                        grown.append((way + ((x, i),), to))
        out = [way for way, at in grown if at is None]
        if out:
            return out
        rows = [(way, at) for way, at in grown if at is not None]
    return []


def plain_judge_way(town, q, value):
    places = [(x, i) for x, crossing in enumerate(town[1]) for i in range(len(crossing[0]))]
    if type(value) is not tuple or not value:
        return ("form",)
    if not all(any(same(part, place) for place in places) for part in value):
        return ("form",)
    at = q
    for k, (x, i) in enumerate(value):
        if at is None or town[1][x][0][i][0] != at:
            return ("step", k)
        at = town[1][x][0][i][1]
    return None if at is None else ("end",)


class Ways(unittest.TestCase):
    def test_the_least_of_the_shortest(self):
        for town in [TOWN] + towns(150, seed=4):
            for q in range(town[0]):
                ways = plain_ways(town, q)
                told = way_out(town, q)
                self.assertTrue(same(told, min(ways) if ways else None), (town, q, told))
                if ways:
                    self.assertIsNone(judge_way_out(town, q, told))
                self.assertEqual(q in shut_queues(town), not ways)
            self.assertIs(type(shut_queues(town)), tuple)
            self.assertEqual(list(shut_queues(town)), sorted(shut_queues(town)))

    def test_a_long_way(self):
        line = tuple((q, q + 1) for q in range(7)) + ((7, None),)
        town = (8, tuple(((move,), (), 9) for move in line))
        self.assertEqual(way_out(town, 0), tuple((x, 0) for x in range(8)))
        self.assertEqual(shut_queues(town), ())

    def test_the_longest_way(self):
        moves = tuple((q, q + 1) for q in range(23)) + ((23, None),)
        town = (24, ((moves, (), 9),))
        self.assertEqual(way_out(town, 0), tuple((0, i) for i in range(24)))

    def test_shut_lots(self):
        town = (5, ((((0, 1), (1, 0), (2, 0), (3, None), (3, 0)), (), 9),))
        self.assertEqual(shut_queues(town), (0, 1, 2, 4))
        self.assertEqual([way_out(town, q) for q in range(5)], [None, None, None, ((0, 3),), None])
        shut = shut_queues(town)
        for start, to in town[1][0][0]:
            if start in shut:
                self.assertIn(to, shut)

    def test_reached_over_any_number_of_movements(self):
        for town in [TOWN] + towns(150, seed=5):
            moves = [move for crossing in town[1] for move in crossing[0] if move[1] is not None]
            reach = {(start, to) for start, to in moves}
            for _ in range(town[0]):
                reach |= {(a, d) for a, b in reach for c, d in reach if b == c}
            for q in range(town[0]):
                self.assertTrue(same(reached_from(town, q), tuple(sorted(to for start, to in reach if start == q))))

    def test_the_queue_itself_only_if_so(self):
        town = (3, ((((0, 1), (1, 0), (2, 0), (1, None)), (), 9),))
        self.assertEqual([reached_from(town, q) for q in range(3)], [(0, 1), (0, 1), (0, 1)])
        town = (3, ((((0, 1), (1, 2), (0, None)), (), 9),))
        self.assertEqual([reached_from(town, q) for q in range(3)], [(1, 2), (2,), ()])

    def test_ways_may_be_longer_and_pass_a_queue_again(self):
        town = (2, ((((0, 1), (1, 0), (1, None)), (), 9),))
        self.assertIsNone(judge_way_out(town, 0, ((0, 0), (0, 1), (0, 0), (0, 2))))
        self.assertEqual(judge_way_out(town, 0, ((0, 0), (0, 1))), ("end",))
        self.assertEqual(judge_way_out(town, 0, ((0, 0), (0, 2), (0, 2))), ("step", 2))
        self.assertEqual(judge_way_out(town, 1, ((0, 0), (0, 2), (0, 2))), ("step", 0))

    def test_form_goes_ahead_of_steps(self):
        for value in ((), [(0, 0), (1, 0)], ([0, 0],), ((0,),), ((0, 0, 0),), ((2, 0),), ((0, 3),), ((1, 2),), ((-1, 0),),
                      ((0, -1),), ((False, 0),), ((0, True),), ((1, 0), None), ((0, 1), (9, 9)), None, "", {}, 0):
            self.assertEqual(judge_way_out(TOWN, 0, value), ("form",), value)

    def test_any_value_and_ways_with_one_thing_changed(self):
        for town in [TOWN] + towns(10, seed=6):
            for q in range(town[0]):
                told = way_out(town, q)
                for value in list(ODD_VALUES) + (within(told) if told else []):
                    self.assertTrue(same(judge_way_out(town, q, value), plain_judge_way(town, q, value)), value)

    def test_ways_by_chance(self):
        chance = random.Random(8)
        for town in towns(60, seed=9):
            places = [(x, i) for x, crossing in enumerate(town[1]) for i in range(len(crossing[0]))]
            for _ in range(40):
                value = tuple(chance.choice(places) for _ in range(chance.randint(1, 4)))
                q = chance.randrange(town[0])
                self.assertTrue(same(judge_way_out(town, q, value), plain_judge_way(town, q, value)))


if __name__ == "__main__":
    unittest.main()
