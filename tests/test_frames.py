"""[7.1] to [7.7]: states, choices, frames, runs, and priced waiting."""

import random
import unittest
from fractions import Fraction

from greenheld.frames import (above, frame, full_choice, grown, is_choice, is_state, judge_run, led, left_town,
                              most_waiting, paid, priced, run, step_of, still_choice)
from greenheld.leading import leading_capacities, leading_plans
from tests.plain import (Street, choice_by_chance, number_of, pair_of, pairs_of, plain_gain, plain_is_choice,
                         plain_pull, plain_total, row_by_chance, share_sizes)
from tests.support import EAST, ODD_VALUES, TOWN, plain_int, same, towns, within
from tests.test_flows import prices_by_chance

LINE = (2, ((((0, 1), (1, None)), ((0, 1, 1, 1),), 6),))
CHOICE = ((((0, 4),), (3, 0)),)
OTHER = ((((1, 4),), (0, 3)),)


def runs(many, seed, frames=8):
    """Tuples of a town, a state, rows and choices."""
    chance = random.Random(seed)
    found = []
    for town in towns(many, seed=seed):
        most = chance.choice((0, 1, 4, 30))
        rows = [row_by_chance(chance, town[0], chance.choice((0, most))) for _ in range(chance.randint(0, frames))]
        found.append((town, row_by_chance(chance, town[0], most), rows, [choice_by_chance(chance, town) for _ in rows]))
    return found


class StatesAndChoices(unittest.TestCase):
    def test_states(self):
        for value, right in (((0, 0), True), ((4, 10 ** 60), True), ((4,), False), ((4, 0, 0), False), ([4, 0], False),
                             ((4, -1), False), ((True, 0), False), ((4, False), False), ((4, None), False), (4, False),
                             (((4, 1), 0), False), ((4, "0"), False), ((), False)):
            self.assertIs(is_state(LINE, value), right, value)
        self.assertTrue(is_state(TOWN, (0, 0, 0, 10 ** 9)))

    def test_choices(self):
        for value, right in ((CHOICE, True), (OTHER, True), ((((), (0, 0)),), True), (((((0, 4),), (0, 0)),), True),
                             (((((0, 4),), (4, 0)),), False), (((((0, 4),), (3, 1)),), False),
                             (((((0, 4),), (-1, 0)),), False), (((((0, 6),), (3, 0)),), False),
                             (((((0, 2), (0, 2)),), (2, 0)), False), (((((0, 2), (0, 2)), (2, 0)),), False),
                             (((((2, 2),), (0, 0)),), False), (((((0, 4),), (3,)),), False),
                             (((((0, 4),), (3, 0, 0)),), False), (((((0, 4),), [3, 0]),), False),
                             (([((0, 4),), (3, 0)],), False), ((([(0, 4)], (3, 0)),), False), ([CHOICE[0]], False),
                             (CHOICE * 2, False), ((), False), (((((0, 4),), (True, 0)),), False),
                             (((((False, 4),), (3, 0)),), False), (((((0, 1), (1, 2), (0, 1)), (0, 1)),), False),
                             (((((0, 1), (1, 1), (0, 1)), (0, 0)),), True), (((((0, 4), ()), (3, 0)),), False)):
            self.assertIs(is_choice(LINE, value), right, value)

    def test_choices_by_plain_looks(self):
        chance = random.Random(1)
        for town in towns(25, seed=2):
            right = choice_by_chance(chance, town)
            self.assertIs(is_choice(town, right), True)
            for value in within(right):
                self.assertIs(is_choice(town, value), plain_is_choice(town, value), value)

    def test_any_value(self):
        for odd in ODD_VALUES:
            plain = type(odd) is tuple and len(odd) == 2 and all(plain_int(many) and many >= 0 for many in odd)
            self.assertIs(is_state(LINE, odd), plain)
            for value in (odd, (odd,), ((odd, (0, 0)),), ((((0, 4),), odd),), ((((odd, 4),), (0, 0)),), ((((0, odd),), (0, 0)),),
                          ((((0, 4),), (odd, 0)),), (((odd,), (0, 0)),)):
                self.assertIs(is_choice(LINE, value), plain_is_choice(LINE, value), value)

    def test_still_and_full(self):
        chance = random.Random(3)
        for town in towns(30, seed=4):
            still = still_choice(town)
            self.assertEqual(still, tuple(((), (0,) * len(crossing[0])) for crossing in town[1]))
            self.assertTrue(is_choice(town, still))
            numbers = tuple(chance.randrange(many) for many in share_sizes(town))
            full = full_choice(town, numbers)
            self.assertEqual(full, tuple((leading_plans(crossing)[k], leading_capacities(crossing)[k])
                                         for crossing, k in zip(town[1], numbers)))
            self.assertTrue(is_choice(town, full))
        self.assertEqual(full_choice((4, (EAST,)), (3,)), ((((0, 5), (1, 2)), (4, 1, 1)),))


class Stepping(unittest.TestCase):
    def test_against_a_plain_stepping_car_by_car(self):
        for town, state, rows, choices in runs(200, seed=5):
            street = Street(town, state)
            states, at = [], state
            for comings, choice in zip(rows, choices):
                waiting = tuple(map(sum, zip(at, comings)))
                told = led(town, waiting, choice)
                self.assertTrue(same(told, street.frame(comings, choice)))
                self.assertTrue(same(frame(town, at, comings, choice), street.state()))
                at = street.state()
                states.append(at)
                # None is lost, none is there twice.
                self.assertEqual(street.cars(), list(range(street.made)))
            self.assertTrue(same(run(town, state, rows, choices), states))
            gone = left_town(town, state, rows, choices)
            self.assertEqual(gone, len(street.gone))
            self.assertTrue(plain_int(gone))
            self.assertEqual(sum(at) + gone, sum(state) + sum(map(sum, rows)))
            self.assertTrue(all(is_state(town, told) for told in states))

    def test_fewer_cars_than_are_let_and_many_more(self):
        self.assertEqual([led(LINE, (2, 9), CHOICE), led(LINE, (3, 0), CHOICE), led(LINE, (10 ** 9, 10 ** 9), CHOICE),
                          led(LINE, (0, 0), CHOICE)], [((2, 0),), ((3, 0),), ((3, 0),), ((0, 0),)])
        self.assertEqual(frame(LINE, (10 ** 9, 10 ** 9), (10 ** 9, 0), CHOICE), (2 * 10 ** 9 - 3, 10 ** 9 + 3))

    def test_movements_of_one_queue_in_order(self):
        town = (2, ((((0, 1), (0, None), (1, 0)), (), 5),))
        full = full_choice(town, (0,))
        self.assertEqual(full[0][1], (4, 4, 4))
        self.assertEqual([led(town, (3, 0), full), led(town, (6, 1), full), led(town, (9, 5), full)],
                         [((3, 0, 0),), ((4, 2, 1),), ((4, 4, 4),)])
        # What is led comes into its next queue behind the frame, and moves from the next one on.
        self.assertEqual([frame(town, (3, 0), (0, 0), full), frame(town, (3, 2), (0, 0), full)], [(0, 3), (2, 3)])

    def test_who_comes_may_go_at_once(self):
        self.assertEqual([frame(LINE, (0, 0), (2, 0), CHOICE), frame(LINE, (0, 0), (0, 5), OTHER)], [(0, 2), (0, 2)])

    def test_no_frames_and_no_comings(self):
        self.assertEqual([run(LINE, (4, 1), [], []), left_town(LINE, (4, 1), [], [])], [[], 0])
        self.assertEqual(run(LINE, (4, 0), [(0, 0)] * 3, [CHOICE, CHOICE, OTHER]), [(1, 3), (0, 4), (0, 1)])
        self.assertEqual(left_town(LINE, (4, 0), [(0, 0)] * 3, [CHOICE, CHOICE, OTHER]), 3)

    def test_tuples_stand_for_lists(self):
        self.assertEqual(run(LINE, (4, 0), ((1, 0), (0, 2)), (CHOICE, OTHER)), [(2, 3), (2, 2)])
        self.assertEqual(left_town(LINE, (4, 0), ((1, 0), (0, 2)), (CHOICE, OTHER)), 3)

    def test_arguments_stay_and_answers_are_new(self):
        rows, choices = [(1, 0), (0, 2)], [CHOICE, OTHER]
        first = run(LINE, (4, 0), rows, choices)
        first.append(None)
        self.assertEqual([run(LINE, (4, 0), rows, choices), rows, choices],
                         [[(2, 3), (2, 2)], [(1, 0), (0, 2)], [CHOICE, OTHER]])

    def test_two_hundred_frames(self):
        chance = random.Random(6)
        town = towns(9, seed=7)[8]
        rows = [row_by_chance(chance, town[0], 10 ** 9) for _ in range(200)]
        choices = [choice_by_chance(chance, town) for _ in rows]
        states = run(town, (10 ** 9,) * town[0], rows, choices)
        self.assertEqual(sum(states[-1]) + left_town(town, (10 ** 9,) * town[0], rows, choices),
                         10 ** 9 * town[0] + sum(map(sum, rows)))


class MoreStayMore(unittest.TestCase):
    def test_runs(self):
        chance = random.Random(8)
        for town, state, rows, choices in runs(100, seed=9):
            more = [tuple(many + chance.choice((0, 0, 1, 5)) for many in row) for row in [state] + rows]
            some, others = run(town, state, rows, choices), run(town, more[0], more[1:], choices)
            for one, other in zip(some, others):
                self.assertTrue(all(a <= b for a, b in zip(one, other)))
                self.assertIs(above(other, one), True)

    def test_above(self):
        self.assertEqual([above((2, 3), (2, 3)), above((2, 3), (2, 4)), above((3, 3), (2, 4)), above((3, 9), (2, 4)),
                          above((0,), (1,))], [True, False, False, True, False])

    def test_most_waiting(self):
        self.assertEqual([most_waiting([]), most_waiting([(2, 3)]), most_waiting([(2, 3), (5, 0), (4, 4)]), most_waiting(())],
                         [(), (2, 3), (5, 4), ()])
        for town, state, rows, choices in runs(20, seed=10):
            states = run(town, state, rows, choices)
            self.assertEqual(most_waiting(states), tuple(max(column) for column in zip(*states)))


class Priced(unittest.TestCase):
    def test_what_a_frame_changes(self):
        chance = random.Random(11)
        for town, state, rows, choices in runs(120, seed=12):
            prices = prices_by_chance(chance, town[0])
            self.assertTrue(same(priced(prices, state), pair_of(plain_total(prices, state))))
            at = state
            for comings, choice in zip(rows, choices):
                told = led(town, tuple(map(sum, zip(at, comings))), choice)
                behind = frame(town, at, comings, choice)
                change = number_of(priced(prices, behind)) - number_of(priced(prices, at))
                got = paid(town, prices, told)
                self.assertTrue(same(got, pair_of(number_of(got))))
                self.assertEqual(change, plain_total(prices, comings) - number_of(got))
                self.assertLessEqual(number_of(got), sum(plain_pull(town, prices, c) for c in range(len(town[1]))))
                at = behind

    def test_paid_by_plain_sums(self):
        chance = random.Random(13)
        for town in towns(60, seed=14):
            prices = prices_by_chance(chance, town[0])
            cars = tuple(tuple(chance.randint(0, 9) for _ in crossing[0]) for crossing in town[1])
            plain = sum((many * (number_of(prices[q]) - (0 if to is None else number_of(prices[to])))
                         for crossing, some in zip(town[1], cars) for (q, to), many in zip(crossing[0], some)), Fraction(0))
            self.assertTrue(same(paid(town, prices, cars), pair_of(plain)))

    def test_steps(self):
        prices = ((1, 3), (2, 3), (0, 1))
        self.assertEqual([step_of(prices, move) for move in ((0, 1), (1, 0), (1, None), (2, None), (2, 0), (1, 2))],
                         [(-1, 3), (1, 3), (2, 3), (0, 1), (-1, 3), (2, 3)])

    def test_just_the_counts_come(self):
        chance = random.Random(15)
        for town, state, _, choices in runs(80, seed=16):
            counts, prices = row_by_chance(chance, town[0], 6), prices_by_chance(chance, town[0])
            frames = len(choices)
            least = grown(town, counts, prices, frames)
            self.assertTrue(same(least, pair_of(plain_gain(town, counts, prices) * frames)))
            states = [state] + run(town, state, [counts] * frames, choices)
            self.assertGreaterEqual(number_of(priced(prices, states[-1])) - number_of(priced(prices, state)), number_of(least))

    def test_prices_of_twenty_digits(self):
        prices = pairs_of([Fraction(10 ** 20 - 1, 10 ** 20 - 3), Fraction(1, 10 ** 20 - 1)])
        self.assertEqual(number_of(priced(prices, (10 ** 9, 10 ** 9))), 10 ** 9 * sum(map(number_of, prices)))
        self.assertEqual(number_of(grown(LINE, (2, 0), prices, 200)), 200 * plain_gain(LINE, (2, 0), prices))
        self.assertEqual(grown(LINE, (0, 0), ((1, 2), (1, 2)), 3), (-6, 1))
        self.assertEqual([priced((), ()), priced(((1, 2),), (3,)), grown(LINE, (1, 1), prices, 0)], [(0, 1), (3, 2), (0, 1)])


def plain_judge_run(town, state, rows, choices, value):
    if type(value) not in (list, tuple) or len(value) != len(rows):
        return ("form",)
    for told in value:
        if type(told) is not tuple or len(told) != town[0] or not all(plain_int(many) and many >= 0 for many in told):
            return ("form",)
    street = Street(town, state)
    for k, told in enumerate(value):
        street.frame(rows[k], choices[k])
        for q in range(town[0]):
            if told[q] != street.state()[q]:
                return (k, q)
    return None


class Judged(unittest.TestCase):
    ROWS, CHOICES = [(1, 0), (0, 2)], [CHOICE, OTHER]

    def test_faults(self):
        for value, fault in (([(2, 3), (2, 2)], None), (((2, 3), (2, 2)), None), ([(2, 3), (2, 3)], (1, 1)),
                             ([(2, 3), (0, 0)], (1, 0)), ([(2, 4), (0, 0)], (0, 1)), ([(9, 9), (2, 2)], (0, 0)),
                             ([(2, 3)], ("form",)), ([(2, 3), (2, 2), (2, 2)], ("form",)), ([], ("form",)), (None, ("form",)),
                             ([(2, 3), [2, 2]], ("form",)), ([(0, 0), (2, -2)], ("form",)), ([(0, 0), (2, True)], ("form",)),
                             ([(2, 3), (2,)], ("form",)), ({0: (2, 3), 1: (2, 2)}, ("form",)), ("ab", ("form",))):
            self.assertEqual(judge_run(LINE, (4, 0), self.ROWS, self.CHOICES, value), fault, value)
        self.assertEqual([judge_run(LINE, (4, 0), [], [], value) for value in ([], (), [()], None, {})],
                         [None, None, ("form",), ("form",), ("form",)])
        self.assertEqual(judge_run(LINE, (0, 0), [(1, 0)], [still_choice(LINE)], [(True, 0)]), ("form",))

    def test_what_is_near_the_right_answer(self):
        for town, state, rows, choices in runs(25, seed=17, frames=4):
            told = run(town, state, rows, choices)
            for value in within(told) + within(tuple(told)) + list(ODD_VALUES):
                self.assertTrue(same(judge_run(town, state, rows, choices, value),
                                     plain_judge_run(town, state, rows, choices, value)), value)


if __name__ == "__main__":
    unittest.main()
