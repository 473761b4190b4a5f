"""[12.1], [12.4]: closed movements, and how few of them take a queue's way out."""

import random
import unittest
from itertools import combinations

from greenheld.changes import (breaking, closed_town, is_served, judge_apart, kept_numbers, least_breaking,
                               ways_apart)
from greenheld.flows import carried
from greenheld.towns import clearance, do_cross, is_town, judge_way_out, shut_queues, way_out
from tests.support import ODD_VALUES, TOWN, plain_int, same, towns, within

FIRST, LAST = (((0, 2), (1, 2)), ((0, 1, 1, 1),), 6), (((2, None),), (), 6)
THREE = (3, (FIRST, LAST))
# Two ways out of queue 0 that share nothing, one of which comes back to queue 1; queue 4 has no way out.
WIDE = (5, ((((0, 1), (0, 2), (1, None), (1, 2)), (), 9), (((2, None), (2, 1)), (), 9), (((3, 4), (4, 3)), (), 9)))
# A town in which none has a way out.
SHUT = (2, ((((0, 1), (1, 0)), ((0, 1, 0, 3),), 4),))


def moves_of(town):
    return {(x, i): move for x, crossing in enumerate(town[1]) for i, move in enumerate(crossing[0])}


def lots_of(town):
    """All ascending lots of the town's movements, small ones first."""
    places = sorted(moves_of(town))
    return [lot for size in range(len(places) + 1) for lot in combinations(places, size)]


def gets_out(town, q, gone=()):
    """Whether a car of the queue may leave the town."""
    seen, ahead = {q}, [q]
    while ahead:
        at = ahead.pop()
        for place, (start, to) in moves_of(town).items():
            if start == at and place not in gone:
                if to is None:
                    return True
                if to not in seen:
                    seen.add(to)
                    ahead.append(to)
    return False


def plain_is_served(town, gone):
    return all(gets_out(town, q, gone) for q in range(town[0]) if gets_out(town, q))


def simple_ways(town, q):
    """All ways out of the queue that come to no queue twice."""
    found, open_ones = [], [((), q, {q})]
    while open_ones:
        way, at, seen = open_ones.pop()
        for place, (start, to) in moves_of(town).items():
            if start == at and to is None:
                found.append(way + (place,))
            elif start == at and to not in seen:
                open_ones.append((way + (place,), to, seen | {to}))
    return found


def least_way(town, q, gone):
    """The least by Python's order of the shortest ways out without what is gone, None without any."""
    ways = [way for way in simple_ways(town, q) if not set(way) & set(gone)]
    return min((len(way), way) for way in ways)[1] if ways else None


def is_movement(town, value):
    return (type(value) is tuple and len(value) == 2 and all(plain_int(number) for number in value)
            and value in moves_of(town))


def plain_judge_apart(town, q, value):
    if type(value) is not tuple or len(value) != 2 or type(value[0]) is not tuple or type(value[1]) is not tuple:
        return ("form",)
    lot, ways = value
    if not all(is_movement(town, place) for place in lot) or list(lot) != sorted(set(lot)):
        return ("form",)
    if any(judge_way_out(town, q, way) is not None for way in ways):
        return ("form",)
    if len(lot) != len(ways):
        return ("many",)
    shared = [place for one, other in combinations(ways, 2) for place in one if place in other]
    if shared:
        return ("share", min(shared))
    way = least_way(town, q, lot)
    return None if way is None else ("left", way)


def gone_by_chance(chance, town, share=0.4):
    """A lot of movements, not all of the town's."""
    places = sorted(moves_of(town))
    lot = [place for place in places if chance.random() < share]
    return tuple(lot if len(lot) < len(places) else lot[1:])


def small_towns(many, seed, most=8):
    """Towns of at most so many movements."""
    return [town for town in towns(many, seed=seed, most_queues=5) if len(moves_of(town)) <= most]


class Closed(unittest.TestCase):
    def test_right_towns_that_keep_all_but_what_is_gone(self):
        chance = random.Random(1)
        for town in towns(200, seed=2):
            gone = gone_by_chance(chance, town, chance.choice((0, 0.2, 0.5, 0.9)))
            closed, numbers = closed_town(town, gone), kept_numbers(town, gone)
            self.assertTrue(is_town(closed))
            self.assertEqual([closed[0], {crossing[2] for crossing in closed[1]}], [town[0], {town[1][0][2]}])
            # Each movement that is not gone is there, in its sequence, and no other one.
            self.assertEqual([old for old, _ in numbers], [place for place in sorted(moves_of(town)) if place not in gone])
            self.assertEqual([new for _, new in numbers], sorted(moves_of(closed)))
            before, behind = moves_of(town), moves_of(closed)
            self.assertTrue(all(before[old] == behind[new] for old, new in numbers))
            for (x, i), (y, j) in numbers:
                for (v, k), (w, l) in numbers:
                    self.assertEqual(x == v, y == w)
                    if x == v:
                        self.assertEqual(do_cross(town[1][x], i, k), do_cross(closed[1][y], j, l))
                        self.assertEqual(clearance(town[1][x], i, k), clearance(closed[1][y], j, l))
            self.assertTrue(same(closed_town(town, gone), closed))

    def test_nothing_closed(self):
        for town in towns(20, seed=3):
            self.assertTrue(same(closed_town(town, ()), town))
            self.assertEqual(kept_numbers(town, ()), tuple((place, place) for place in sorted(moves_of(town))))
            self.assertIs(is_served(town, ()), True)

    def test_crossings_without_movements_are_left_out(self):
        self.assertEqual([closed_town(WIDE, ((0, 0), (0, 1), (0, 2), (0, 3))), kept_numbers(WIDE, ((0, 0), (0, 1), (0, 2), (0, 3)))[0],
                          closed_town(THREE, ((1, 0),)), closed_town(WIDE, ((0, 0), (0, 1), (0, 2), (0, 3), (2, 0), (2, 1)))],
                         [(5, WIDE[1][1:]), ((1, 0), (0, 0)), (3, (FIRST,)), (5, WIDE[1][1:2])])

    def test_what_crosses_is_numbered_anew(self):
        crossing = (((0, None), (1, None), (2, None), (3, None)), ((0, 1, 1, 2), (0, 3, 3, 4), (1, 2, 5, 6), (2, 3, 7, 8)), 30)
        self.assertEqual(closed_town((4, (crossing,)), ((0, 1),)), (4, ((((0, None), (2, None), (3, None)), ((0, 2, 3, 4), (1, 2, 7, 8)), 30),)))
        self.assertEqual(closed_town((4, (crossing,)), ((0, 0), (0, 3))), (4, ((((1, None), (2, None)), ((0, 1, 5, 6),), 30),)))

    def test_it_may_carry_more(self):
        # Movement 2 stands in every stage with 0 and with 1, and has a long clearance against 3.
        moves = ((0, None), (1, None), (2, None), (3, None))
        town = (4, ((moves, ((0, 1, 0, 0), (0, 3, 0, 0), (1, 3, 0, 0), (2, 3, 9, 0)), 12),))
        counts = (4, 0, 0, 4)
        self.assertEqual([carried(town, counts)[0], carried(closed_town(town, ((0, 2),)), counts)[0]], ["grows", "carried"])


class Served(unittest.TestCase):
    def test_by_plain_search(self):
        chance = random.Random(4)
        told = []
        for town in towns(150, seed=5):
            for _ in range(4):
                gone = gone_by_chance(chance, town, chance.choice((0.1, 0.4)))
                self.assertIs(is_served(town, gone), plain_is_served(town, gone))
                told.append(is_served(town, gone))
            every = tuple(sorted(moves_of(town)))
            self.assertIs(is_served(town, every), shut_queues(town) == tuple(range(town[0])))
            self.assertTrue(same(breaking(town), tuple(place for place in every if not plain_is_served(town, (place,)))))
        self.assertGreater(min(told.count(True), told.count(False)), 100)

    def test_breaking(self):
        self.assertEqual([breaking(THREE), breaking(WIDE), breaking(SHUT), breaking(TOWN)],
                         [((0, 0), (0, 1), (1, 0)), (), (), ((0, 0), (1, 0), (1, 1))])

    def test_least_breaking_by_all_lots(self):
        sizes = set()
        for town in small_towns(150, seed=6):
            told = least_breaking(town)
            lots = [lot for lot in lots_of(town) if not plain_is_served(town, lot)]
            if not lots:
                self.assertIsNone(told)
                self.assertEqual(shut_queues(town), tuple(range(town[0])))
                continue
            self.assertTrue(all(is_movement(town, place) for place in told) and list(told) == sorted(set(told)))
            self.assertEqual(len(told), len(lots[0]))
            self.assertFalse(plain_is_served(town, told))
            sizes.add(len(told))
        self.assertGreaterEqual(sizes, {1, 2})
        self.assertEqual([least_breaking(SHUT), len(least_breaking(WIDE)), least_breaking((1, ((((0, None),), (), 3),)))], [None, 2, ((0, 0),)])


class Apart(unittest.TestCase):
    def test_no_lot_is_smaller_by_trying(self):
        sizes = set()
        for town in small_towns(150, seed=7):
            for q in range(town[0]):
                if not gets_out(town, q):
                    self.assertIsNone(judge_apart(town, q, ((), ())))
                    continue
                value = ways_apart(town, q)
                lot, ways = value
                self.assertIsNone(judge_apart(town, q, value))
                self.assertIsNone(plain_judge_apart(town, q, value))
                self.assertEqual(len(lot), len(ways))
                self.assertTrue(same(value, (lot, ways)))
                lots = [lot for lot in lots_of(town) if not gets_out(town, q, lot)]
                self.assertEqual(len(lot), len(lots[0]))
                sizes.add(len(lot))
        self.assertGreaterEqual(sizes, {1, 2, 3})

    def test_twelve_movements(self):
        for town in towns(120, seed=9, most_queues=8):
            for q in range(town[0]):
                if gets_out(town, q):
                    self.assertIsNone(plain_judge_apart(town, q, ways_apart(town, q)))

    def test_shortest_ways_that_must_be_left_again(self):
        # The shortest way, over queues 1 and 2, has a movement of each pair of ways that share nothing.
        moves = ((0, 1), (1, 2), (2, None), (1, 3), (3, 4), (4, None), (0, 5), (5, 6), (6, 2), (2, 1))
        chance = random.Random(8)
        for many in (9, 10):
            for _ in range(30):
                queues = chance.sample(range(7), 7)
                town = (7, tuple((tuple(move for move in moves[:many] if move[0] == q), (), 5) for q in queues))
                value = ways_apart(town, 0)
                self.assertEqual([len(value[0]), plain_judge_apart(town, 0, value)], [2, None])

    def test_a_lot_takes_the_way_out_exactly_if_it_has_one_of_each_way(self):
        chance = random.Random(10)
        for town in towns(100, seed=11, most_queues=5):
            for q in range(town[0]):
                ways = simple_ways(town, q)
                for _ in range(6):
                    gone = gone_by_chance(chance, town, chance.choice((0.2, 0.5)))
                    hits = all(set(way) & set(gone) for way in ways)
                    self.assertEqual(way_out(closed_town(town, gone), q) is None, hits)

    def test_faults(self):
        one, other = ((0, 0), (0, 2)), ((0, 1), (1, 0))
        lot = ((0, 0), (0, 1))
        around = ((0, 0), (0, 3), (1, 1), (0, 2))
        twice = ((0, 0), (0, 3), (1, 1), (0, 3), (1, 0))
        for value, fault in (((lot, (one, other)), None), ((((0, 2), (1, 0)), (one, other)), None),
                             ((lot, (other, one)), None), ((lot, (one,)), ("many",)), ((lot[:1], (one, other)), ("many",)), (((), ()), ("left", one)),
                             ((lot, (one, one)), ("share", (0, 0))), ((lot, (around, other)), None), ((lot, (around, one)), ("share", (0, 0))),
                             ((lot[:1], (one,)), ("left", other)), ((lot[1:], (twice,)), ("left", one)), (((lot[1], lot[0]), (one, other)), ("form",)),
                             (((lot[0], lot[0]), (one, other)), ("form",)), ((lot, [one, other]), ("form",)), ((list(lot), (one, other)), ("form",)),
                             ((lot, (list(one), other)), ("form",)), ((lot, (one[:1], other)), ("form",)), ((lot, (one[1:], other)), ("form",)),
                             ((lot, (one, ())), ("form",)), ((((0, 0), (0, 4)), (one, other)), ("form",)), (((0, 1), (one, other)), ("form",)),
                             ((((0, 0), [0, 1]), (one, other)), ("form",)), ((((False, 0), (0, 1)), (one, other)), ("form",)),
                             ((((0, 0), (0, True)), (one, other)), ("form",)), ((lot, (one, other), ()), ("form",)), ((lot,), ("form",)),
                             ([lot, (one, other)], ("form",)), (None, ("form",))):
            self.assertEqual(judge_apart(WIDE, 0, value), fault, value)
            self.assertTrue(same(judge_apart(WIDE, 0, value), plain_judge_apart(WIDE, 0, value)))

    def test_one_way_may_have_a_movement_twice(self):
        town = (3, ((((0, 1), (1, 0), (1, None)), (), 5),))
        way = ((0, 0), (0, 1), (0, 0), (0, 2))
        self.assertEqual([judge_apart(town, 0, (((0, 0),), (way,))), judge_apart(town, 0, (((0, 1),), (way,)))],
                         [None, ("left", ((0, 0), (0, 2)))])

    def test_the_way_left_in_numbers_of_the_town(self):
        town = (3, ((((0, 1), (0, 2), (0, None)), (), 5), (((1, None),), (), 5), (((2, None),), (), 5)))
        for lot, way in ((((0, 2),), ((0, 0), (1, 0))), (((0, 0), (0, 2)), ((0, 1), (2, 0))), (((0, 2), (1, 0)), ((0, 1), (2, 0)))):
            ways = (((0, 0), (1, 0)), ((0, 1), (2, 0)))[:len(lot)]
            self.assertEqual(judge_apart(town, 0, (lot, ways)), ("left", way))
        self.assertEqual(judge_apart(town, 0, (((0, 0), (0, 1)), (((0, 0), (1, 0)), ((0, 1), (2, 0))))), ("left", ((0, 2),)))

    def test_all_movements_as_a_lot(self):
        every = tuple(sorted(moves_of(THREE)))
        self.assertEqual([judge_apart(THREE, 0, (every, ())), judge_apart(THREE, 0, (every, (((0, 0), (1, 0)),) * 3))], [("many",), ("share", (0, 0))])
        one = (1, ((((0, None),), (), 3),))
        self.assertIsNone(judge_apart(one, 0, (((0, 0),), (((0, 0),),))))

    def test_queues_without_a_way_out(self):
        for q in (3, 4):
            self.assertEqual([judge_apart(WIDE, q, value) for value in (((), ()), (((0, 0),), ()), ((), (((2, 0),),)), (((2, 0),), (((2, 0),),)))],
                             [None, ("many",), ("form",), ("form",)])
        self.assertEqual([judge_apart(SHUT, q, ((), ())) for q in (0, 1)], [None, None])
        self.assertEqual(judge_apart((3, (LAST,)), 0, ((), ())), None)

    def test_what_is_near_and_any_value(self):
        for town, q in ((WIDE, 0), (THREE, 1), (TOWN, 1), (WIDE, 3)):
            right = ways_apart(town, q) if gets_out(town, q) else ((), ())
            for value in within(right) + list(ODD_VALUES):
                self.assertTrue(same(judge_apart(town, q, value), plain_judge_apart(town, q, value)), value)
        for odd in ODD_VALUES:
            for value in ((odd, ()), ((), odd), ((odd,), (((0, 0), (0, 2)),)), (((0, 0),), (odd,)), (((0, odd),), ((odd,),)), (((odd, 0),), (((0, odd),),))):
                self.assertTrue(same(judge_apart(WIDE, 0, value), plain_judge_apart(WIDE, 0, value)), value)

    def test_by_chance(self):
        chance = random.Random(12)
        faults = []
        for town in towns(300, seed=13, most_queues=5):
            q = chance.randrange(town[0])
            ways = simple_ways(town, q)
            some = tuple(chance.choice(ways) for _ in range(chance.randint(0, 3))) if ways else ()
            places = sorted(moves_of(town))
            lot = tuple(sorted(chance.sample(places, min(len(places), chance.choice((len(some), len(some), chance.randint(0, 3)))))))
            told = judge_apart(town, q, (lot, some))
            self.assertTrue(same(told, plain_judge_apart(town, q, (lot, some))))
            faults.append(told and told[0])
        self.assertGreater(min(faults.count(fault) for fault in (None, "many", "share", "left")), 15)


if __name__ == "__main__":
    unittest.main()
