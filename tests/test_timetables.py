"""[6.1] to [6.7]: timetables, what they hold, and their bounds, frame by frame."""

import random
import unittest
from fractions import Fraction
from math import ceil, lcm

from greenheld.flows import carried
from greenheld.frames import is_choice, run
from greenheld.leading import leading_capacities, leading_plans
from greenheld.timetables import (is_timetable, judge_timetable, least_bound, longest_wait, round_bound, round_lets,
                                  rounds_till, spread, table_bound, table_choice, timetable, turned_table)
from tests.plain import (Street, choice_by_chance, number_of, pairs_of, plain_capacity, plain_is_choice, row_by_chance,
                         share_sizes)
from tests.support import ODD_VALUES, TOWN, plain_int, same, towns, within
from tests.test_flows import PLAIN, SHUT

TABLE = (((((0, 5),), (4, 0)),), ((((1, 5),), (0, 4)),))


def shares_by_chance(chance, town, frames):
    """Shares whose denominators divide frames."""
    told = []
    for many in share_sizes(town):
        parts = [0] * many
        for _ in range(frames):
            parts[chance.randrange(many)] += 1
        told.append(pairs_of([Fraction(part, frames) for part in parts]))
    return tuple(told)


def flows_by_chance(chance, town, shares, frames):
    """Flows that are nowhere above what the shares let, whose denominators divide frames."""
    told = []
    for crossing, part in zip(town[1], shares):
        most = [sum(number_of(share) * capacity[i] for share, capacity in zip(part, leading_capacities(crossing)))
                for i in range(len(crossing[0]))]
        told.append(pairs_of([Fraction(chance.choice((0, chance.randint(0, int(one * frames)), int(one * frames))), frames)
                              for one in most]))
    return tuple(told)


def moves_of(town):
    return [(x, i, q, to) for x, crossing in enumerate(town[1]) for i, (q, to) in enumerate(crossing[0])]


def plain_sums(town, counts, table):
    """For each queue the pair (L, M)."""
    told = []
    for q in range(town[0]):
        lets = sum(choice[x][1][i] for choice in table for x, i, start, _ in moves_of(town) if start == q)
        into = sum(choice[x][1][i] for choice in table for x, i, _, to in moves_of(town) if to == q)
        told.append((lets, len(table) * counts[q] + into))
    return told


def held_table(chance, town, frames):
    """Any plans, and lets by which no more is led into a queue than out of it."""
    table = [[[plan, list(lets)] for plan, lets in choice_by_chance(chance, town)] for _ in range(frames)]
    while True:
        over = [q for q, (lets, comes) in enumerate(plain_sums(town, (0,) * town[0], table)) if comes > lets]
        if not over:
            return tuple(tuple((plan, tuple(lets)) for plan, lets in choice) for choice in table)
        places = [(choice, x, i) for choice in table for x, i, _, to in moves_of(town)
                  if to == over[0] and choice[x][1][i] > 0]
        choice, x, i = chance.choice(places)
        choice[x][1][i] -= 1


def held_counts(chance, town, table):
    """Counts that the table holds, at some queues as many as it can."""
    most = [(lets - comes) // len(table) for lets, comes in plain_sums(town, (0,) * town[0], table)]
    return tuple(chance.choice((0, chance.randint(0, many), many)) for many in most)


def held_by_flows(many, seed):
    """Tuples of a town, counts, and a timetable made of shares and flows that carry the counts."""
    chance = random.Random(seed)
    found = []
    while len(found) < many:
        for town in towns(20, seed=chance.randint(0, 10 ** 9), length=chance.choice((6, 9, 12))):
            counts = row_by_chance(chance, town[0], chance.choice((1, 1, 2, 4)))
            told = carried(town, counts)
            if told[0] == "carried" and lcm(*[e for some in told[1] + told[2] for _, e in some]) <= 60:
                found.append((town, counts, timetable(town, told[1], told[2])))
    return found


def held(many, seed):
    """Tuples of a town, counts, and a timetable of any kind that holds them."""
    chance = random.Random(seed)
    found = held_by_flows(many // 2, seed)
    for town in towns(many - many // 2, seed=seed):
        table = held_table(chance, town, chance.choice((1, 1, 2, 3, 5)))
        found.append((town, held_counts(chance, town, table), table))
    return found


class Made(unittest.TestCase):
    def test_frame_by_frame_of_told_shares_and_flows(self):
        chance = random.Random(1)
        lengths = set()
        for town in towns(120, seed=2):
            frames = chance.choice((1, 2, 3, 4, 6, 12, 60))
            shares = shares_by_chance(chance, town, frames)
            flows = flows_by_chance(chance, town, shares, frames)
            table = timetable(town, shares, flows)
            least = lcm(*[e for some in shares + flows for _, e in some])
            lengths.add(least)
            self.assertEqual(len(table), least)
            self.assertTrue(is_timetable(town, table))
            for x, crossing in enumerate(town[1]):
                plans = [plan for plan, share in zip(leading_plans(crossing), shares[x])
                         for _ in range(int(number_of(share) * least))]
                self.assertEqual([choice[x][0] for choice in table], plans)
                left = [number_of(flow) * least for flow in flows[x]]
                for choice in table:
                    capacity = plain_capacity(crossing, choice[x][0])
                    lets = tuple(min(many, most) for many, most in zip(left, capacity))
                    self.assertEqual(choice[x][1], lets)
                    self.assertTrue(all(plain_int(many) for many in choice[x][1]))
                    left = [many - some for many, some in zip(left, lets)]
                self.assertEqual(left, [0] * len(left))
            self.assertTrue(same(round_lets(town, table),
                                 tuple(tuple(int(number_of(flow) * least) for flow in some) for some in flows)))
        self.assertLessEqual({1, 60}, lengths)

    def test_the_least_number_of_frames(self):
        self.assertEqual(len(timetable(PLAIN, (((0, 1), (1, 1), (0, 1)),), (((1, 1), (0, 1)),))), 1)
        self.assertEqual(len(timetable(PLAIN, (((0, 1), (1, 1), (0, 1)),), (((1, 7), (0, 1)),))), 7)
        self.assertEqual(len(timetable(PLAIN, (((0, 1), (1, 4), (3, 4)),), (((1, 6), (0, 1)),))), 12)

    def test_shares_and_flows_that_carry_make_tables_that_hold(self):
        for town, counts, table in held_by_flows(80, seed=3):
            self.assertIsNone(judge_timetable(town, counts, table))

    def test_choices_and_turns(self):
        chance = random.Random(4)
        for frames in (1, 2, 60):
            table = tuple(choice_by_chance(chance, TOWN) for _ in range(frames))
            for k in (0, 1, frames - 1, frames, frames + 1, 5 * frames + 3, 10 ** 9):
                self.assertEqual(table_choice(table, k), table[k % frames])
                turned = turned_table(table, k)
                self.assertEqual(turned, tuple(table[(k + t) % frames] for t in range(frames)))
            self.assertEqual([turned_table(table, 0), turned_table(table, frames)], [table, table])

    def test_turned_ones_hold_the_same_counts(self):
        for town, counts, table in held(30, seed=5):
            self.assertTrue(all(judge_timetable(town, counts, turned_table(table, k)) is None
                                for k in range(len(table) + 2)))

    def test_round_lets(self):
        self.assertEqual([round_lets(PLAIN, TABLE), round_lets(PLAIN, TABLE[:1] * 60)], [((4, 4),), ((240, 0),)])


class Bounds(unittest.TestCase):
    def test_by_plain_sums(self):
        chance = random.Random(6)
        for town, counts, table in held(60, seed=7):
            state = row_by_chance(chance, town[0], chance.choice((0, 5, 60, 10 ** 6)))
            lows, waits, tills = [], [], []
            for q, (lets, comes) in enumerate(plain_sums(town, counts, table)):
                low = (lets - 1 if lets else 0) + comes
                lows.append(max(state[q], low))
                waits.append(len(table) * (1 + ceil(Fraction(lows[-1], lets))) if lets else None)
                if state[q] > low and lets == comes:
                    tills.append(None)
                else:
                    tills.append(max(0, ceil(Fraction(state[q] - low, lets - comes))) if state[q] > low else 0)
            self.assertTrue(same(round_bound(town, counts, table, state), tuple(lows)))
            self.assertTrue(same(table_bound(town, counts, table, state),
                                 tuple(low + comes for low, (_, comes) in zip(lows, plain_sums(town, counts, table)))))
            self.assertTrue(same(longest_wait(town, counts, table, state), tuple(waits)))
            self.assertTrue(same(rounds_till(town, counts, table, state), tuple(tills)))

    def test_frame_by_frame(self):
        chance = random.Random(8)
        for town, counts, table in held(60, seed=9):
            state = row_by_chance(chance, town[0], chance.choice((0, 3, 40)))
            rounds = max(2, min(12, 120 // len(table)))
            rows = [tuple(chance.choice((count, chance.randint(0, count))) for count in counts)
                    for _ in range(rounds * len(table))]
            if chance.random() < 0.5:
                rows = [counts] * len(rows)
            states = run(town, state, rows, [table_choice(table, t) for t in range(len(rows))])
            within_frames, within_rounds = table_bound(town, counts, table, state), round_bound(town, counts, table, state)
            self.assertTrue(all(a <= b for told in states for a, b in zip(told, within_frames)))
            self.assertTrue(all(a <= b for told in states[len(table) - 1::len(table)] for a, b in zip(told, within_rounds)))
            lows = round_bound(town, counts, table, (0,) * town[0])
            for q, rounds_told in enumerate(rounds_till(town, counts, table, state)):
                if rounds_told is not None:
                    ends = ([state] + states[len(table) - 1::len(table)])[rounds_told:]
                    self.assertTrue(all(told[q] <= lows[q] for told in ends))

    def test_who_waits_leaves_in_time(self):
        chance = random.Random(10)
        for town, counts, table in held(40, seed=11):
            state = row_by_chance(chance, town[0], chance.choice((0, 3, 20)))
            most = longest_wait(town, counts, table, state)
            street = Street(town, state)
            for t in range(max(2, min(20, 100 // len(table))) * len(table)):
                street.frame(tuple(chance.choice((count, chance.randint(0, count))) for count in counts), table[t % len(table)])
            self.assertTrue(all(frames <= most[q] for q, frames in street.waits))
            for q, queue in enumerate(street.queues):
                if most[q] is not None:
                    self.assertTrue(all(street.done - since <= most[q] for _, since in queue))

    def test_queues_from_which_nothing_is_let(self):
        table = (((((0, 5),), (4, 0)),),)
        self.assertIsNone(judge_timetable(PLAIN, (4, 0), table))
        self.assertEqual(judge_timetable(PLAIN, (4, 1), table), ("queue", 1))
        self.assertEqual([round_bound(PLAIN, (4, 0), table, (0, 9)), table_bound(PLAIN, (4, 0), table, (0, 9)),
                          round_bound(PLAIN, (4, 0), table, (0, 0)), longest_wait(PLAIN, (4, 0), table, (0, 9)),
                          rounds_till(PLAIN, (4, 0), table, (0, 9)), rounds_till(PLAIN, (4, 0), table, (8, 0))],
                         [(7, 9), (11, 9), (7, 0), (3, None), (0, None), (None, 0)])

    def test_one_car_let(self):
        table = (((((0, 5),), (1, 0)),),)
        self.assertEqual([round_bound(PLAIN, (1, 0), table, (0, 0)), round_bound(PLAIN, (0, 0), table, (0, 0)),
                          longest_wait(PLAIN, (0, 0), table, (0, 0)), longest_wait(PLAIN, (1, 0), table, (0, 0)),
                          rounds_till(PLAIN, (0, 0), table, (10 ** 6, 0))],
                         [(1, 0), (0, 0), (1, None), (2, None), (10 ** 6, 0)])

    def test_tables_of_sixty_frames(self):
        shares, flows = (((1, 60), (29, 60), (1, 2)),), (((2, 1), (2, 1)),)
        flows = (((117, 60), (121, 60)),)
        flows = tuple(pairs_of([Fraction(*flow) for flow in some]) for some in flows)
        table = timetable(PLAIN, shares, flows)
        self.assertEqual([len(table), round_lets(PLAIN, table)], [60, ((117, 121),)])
        self.assertEqual([judge_timetable(PLAIN, (1, 2), table), judge_timetable(PLAIN, (2, 2), table)], [None, ("queue", 0)])
        self.assertEqual([round_bound(PLAIN, (1, 2), table, (0, 0)), table_bound(PLAIN, (1, 2), table, (0, 500))],
                         [(116 + 60, 120 + 120), (236, 620)])
        self.assertEqual([rounds_till(PLAIN, (1, 2), table, (176, 241)), rounds_till(PLAIN, (1, 2), table, (177, 240))],
                         [(0, 1), (1, 0)])
        self.assertEqual(longest_wait(PLAIN, (1, 2), table, (0, 0)), (60 * 3, 60 * 3))


class Spread(unittest.TestCase):
    def test_by_plain_sums(self):
        chance = random.Random(12)
        for town, counts, table in held(80, seed=13):
            told = spread(town, table)
            self.assertTrue(is_timetable(town, told))
            self.assertEqual(round_lets(town, told), round_lets(town, table))
            for x, crossing in enumerate(town[1]):
                self.assertEqual([choice[x][0] for choice in told], [choice[x][0] for choice in table])
                for i in range(len(crossing[0])):
                    capacities = [plain_capacity(crossing, choice[x][0])[i] for choice in table]
                    lets = sum(choice[x][1][i] for choice in table)
                    sums = [ceil(Fraction(lets * sum(capacities[:k + 1]), sum(capacities))) if sum(capacities) else 0
                            for k in range(len(table))]
                    self.assertEqual([sum(choice[x][1][i] for choice in told[:k + 1]) for k in range(len(table))], sums)
            state = row_by_chance(chance, town[0], 30)
            self.assertIsNone(judge_timetable(town, counts, told))
            self.assertEqual(table_bound(town, counts, told, state), table_bound(town, counts, table, state))

    def test_dealt_evenly(self):
        first = ((((0, 5),), (4, 0)),)
        self.assertEqual(spread(PLAIN, (first, first, ((((0, 5),), (0, 0)),), ((((0, 5),), (0, 0)),))),
                         (((((0, 5),), (2, 0)),),) * 4)
        self.assertEqual([choice[0][1][0] for choice in spread(PLAIN, (first,) + (((((0, 5),), (1, 0)),),) * 2)], [2, 2, 2])
        self.assertEqual([choice[0][1][0] for choice in spread(PLAIN, (((((0, 5),), (3, 0)),), ((((0, 5),), (4, 0)),)))], [4, 3])
        self.assertEqual(spread(PLAIN, ((((), (0, 0)),),)), ((((), (0, 0)),),))


class LeastBound(unittest.TestCase):
    def test_by_plain_sums(self):
        chance = random.Random(14)
        for town in towns(40, seed=15):
            tables = [held_table(chance, town, chance.choice((1, 2, 3))) for _ in range(chance.randint(1, 4))]
            counts = (0,) * town[0]
            greatest = [max(table_bound(town, counts, table, counts)) for table in tables]
            self.assertEqual(least_bound(town, counts, tables), greatest.index(min(greatest)))

    def test_counts_of_the_tables(self):
        small = (((((0, 5),), (1, 0)),), ((((0, 5),), (1, 0)),))
        both = (((((0, 5),), (1, 0)),),)
        self.assertEqual([least_bound(PLAIN, (1, 0), [TABLE, small, both, both]), least_bound(PLAIN, (0, 0), [TABLE]),
                          least_bound(PLAIN, (0, 0), (small, both)), least_bound(PLAIN, (0, 0), [both, both])], [2, 0, 1, 0])


def plain_judge_timetable(town, counts, value):
    if type(value) is not tuple or not value or not all(plain_is_choice(town, choice) for choice in value):
        return ("form",)
    for q, (lets, comes) in enumerate(plain_sums(town, counts, value)):
        if comes > lets:
            return ("queue", q)
    return None


class Judged(unittest.TestCase):
    def test_faults(self):
        for value, fault in ((TABLE, None), (TABLE[::-1], None), (list(TABLE), ("form",)), ((), ("form",)), (None, ("form",)),
                             (TABLE[0], ("form",)), (TABLE + ((),), ("form",)), (TABLE[:1], ("queue", 1)),
                             (TABLE[1:], ("queue", 0)), ((((((0, 5),), (5, 0)),),), ("form",)),
                             ((((((0, 6),), (4, 0)),),), ("form",)), ((((((0, 5),), (-1, 0)),),), ("form",)),
                             ((((((0, 5),), (4, False)),),), ("form",)), ((((((0, 5),), [4, 0]),),), ("form",)),
                             ((((((0, 5),), (4, 0)),) * 2,), ("form",)), (TABLE + (TABLE[0],), ("queue", 1)),
                             (TABLE + ((((), (0, 0)),),), ("queue", 0))):
            self.assertEqual(judge_timetable(PLAIN, (2, 2), value), fault, value)
            self.assertIs(is_timetable(PLAIN, value), fault != ("form",))
        self.assertEqual([judge_timetable(PLAIN, (2, 3), TABLE), judge_timetable(PLAIN, (3, 3), TABLE),
                          judge_timetable(SHUT, (0,) * 5, ((((), (0, 0)), ((), (0, 0))),)),
                          judge_timetable(SHUT, (0, 0, 0, 1, 0), ((((), (0, 0)), ((), (0, 0))),))],
                         [("queue", 1), ("queue", 0), None, ("queue", 3)])

    def test_what_is_led_into_a_queue_counts(self):
        town = (2, ((((0, 1), (1, None)), (), 4),))
        lets = [((((0, 4),), (a, b)),) for a, b in ((2, 3), (3, 2))]
        self.assertEqual([judge_timetable(town, (2, 1), (lets[0],)), judge_timetable(town, (2, 0), (lets[1],)),
                          judge_timetable(town, (2, 0), tuple(lets)), judge_timetable(town, (2, 1), tuple(lets))],
                         [None, ("queue", 1), None, ("queue", 1)])

    def test_what_is_near_a_timetable(self):
        chance = random.Random(16)
        for town in towns(12, seed=17, most_queues=4, most_crossings=2):
            table = held_table(chance, town, chance.choice((1, 2)))
            counts = held_counts(chance, town, table)
            for value in within(table):
                fault = plain_judge_timetable(town, counts, value)
                self.assertTrue(same(judge_timetable(town, counts, value), fault), value)
                self.assertIs(is_timetable(town, value), fault != ("form",))

    def test_any_value(self):
        for odd in ODD_VALUES:
            for value in (odd, (odd,), ((odd,),), (((((0, 5),), odd),),), (((odd, (4, 0)),),), TABLE + (odd,)):
                fault = plain_judge_timetable(PLAIN, (0, 0), value)
                self.assertTrue(same(judge_timetable(PLAIN, (0, 0), value), fault), value)
                self.assertIs(is_timetable(PLAIN, value), fault != ("form",))

    def test_sixty_frames_of_choices(self):
        chance = random.Random(18)
        table = tuple(choice_by_chance(chance, TOWN) for _ in range(60))
        self.assertTrue(is_timetable(TOWN, table))
        self.assertFalse(is_timetable(TOWN, table[:-1] + (table[-1][:1],)))
        self.assertTrue(all(is_choice(TOWN, choice) for choice in table))


if __name__ == "__main__":
    unittest.main()
