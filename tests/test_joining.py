"""[12.2] to [12.4]: green ways of ambulances, car by car, and towns put together."""

import random
import unittest

from greenheld.frames import frame, is_choice, led, run, still_choice
from greenheld.joining import apart, ride, ride_bound, side_by_side, tie_rows, tied, way_choice
from greenheld.leading import leading_capacities, leading_plans
from greenheld.towns import is_town
from tests.plain import Street, choice_by_chance, row_by_chance
from tests.support import plain_int, same, town_by_chance, towns

FIRST, LAST = (((0, 2), (1, 2)), ((0, 1, 1, 1),), 6), (((2, None),), (), 6)
THREE = (3, (FIRST, LAST))
STILL = (((), (0, 0)), ((), (0,)))


def best_of(crossing, i):
    """The first leading plan with the greatest capacity of movement i, and its capacity."""
    capacities = leading_capacities(crossing)
    k = min(k for k in range(len(capacities)) if capacities[k][i] == max(capacity[i] for capacity in capacities))
    return leading_plans(crossing)[k], capacities[k]


def plain_way_choice(town, choice, x, i):
    pairs = list(choice)
    crossing = town[1][x]
    plan, capacity = best_of(crossing, i)
    lets = []
    for j, (start, _) in enumerate(crossing[0]):
        if j == i:
            lets.append(capacity[i])
        else:
            lets.append(0 if start == crossing[0][i][0] else min(choice[x][1][j], capacity[j]))
    pairs[x] = (plan, tuple(lets))
    return tuple(pairs)


def plain_ride(town, state, ahead, way, rows, choices):
    """The ride, car by car; also a list of how many frames each movement took, how many were ahead, and its number."""
    street = Street(town, state)
    at = town[1][way[0][0]][0][way[0][1]][0]
    car = street.queues[at][ahead][0]
    passed, states, waits, since = [], [], [], (0, ahead)
    for k, (comings, choice) in enumerate(zip(rows, choices)):
        if len(passed) < len(way):
            x, i = way[len(passed)]
            choice = plain_way_choice(town, choice, x, i)
        street.frame(comings, choice)
        states.append(street.state())
        if len(passed) < len(way) and car not in [number for number, _ in street.queues[town[1][x][0][i][0]]]:
            waits.append((way[len(passed)], k - since[0] + 1, since[1]))
            passed.append(k)
            to = town[1][x][0][i][1]
            if to is not None:
                queue = street.queues[to]
                place = [number for number, _ in queue].index(car)
                queue.append(queue.pop(place))
                since = (k + 1, len(queue) - 1)
    if len(passed) < len(way):
        waits.append((way[len(passed)], len(rows) - since[0] + 1, since[1]))
    return (tuple(passed), states), waits


def way_by_chance(chance, town, most):
    """A way of at most so many movements, None from a queue without any."""
    moves = {(x, i): move for x, crossing in enumerate(town[1]) for i, move in enumerate(crossing[0])}
    at = chance.choice([q for q, _ in moves.values()])
    way = []
    while len(way) < most:
        on = [place for place, (q, _) in moves.items() if q == at]
        if at is None or not on:
            break
        way.append(chance.choice(on))
        at = moves[way[-1]][1]
    return tuple(way)


def rides(many, seed, frames=25):
    chance = random.Random(seed)
    found = []
    for town in towns(many, seed=seed):
        way = way_by_chance(chance, town, chance.choice((1, 3, 12)))
        start = town[1][way[0][0]][0][way[0][1]][0]
        state = list(row_by_chance(chance, town[0], chance.choice((2, 15))))
        state[start] += 1
        ahead = chance.choice((0, state[start] - 1, chance.randrange(state[start])))
        rows = [row_by_chance(chance, town[0], chance.choice((0, 2, 5))) for _ in range(chance.randint(0, frames))]
        found.append((town, tuple(state), ahead, way, rows, [choice_by_chance(chance, town) for _ in rows]))
    return found


class GreenWays(unittest.TestCase):
    def test_changed_choices(self):
        chance = random.Random(1)
        for town in towns(100, seed=2):
            for _ in range(4):
                choice = choice_by_chance(chance, town)
                x = chance.randrange(len(town[1]))
                i = chance.randrange(len(town[1][x][0]))
                told = way_choice(town, choice, x, i)
                self.assertTrue(same(told, plain_way_choice(town, choice, x, i)))
                self.assertTrue(is_choice(town, told))

    def test_lets_of_the_crossing(self):
        # Movements 0 and 1 leave one queue, 2 is free of all, 3 crosses 0.
        crossing = (((0, None), (0, 1), (1, None), (2, None)), ((0, 3, 1, 1),), 6)
        choice = ((((0, 2), (1, 2)), (1, 2, 1, 1)),)
        self.assertEqual(way_choice((3, (crossing,)), choice, 0, 0), ((((0, 5),), (4, 0, 1, 0)),))
        self.assertEqual(way_choice((3, (crossing,)), choice, 0, 3), ((((1, 5),), (0, 2, 1, 4)),))
        # Both stages have movement 2 and the same capacity of it: the first plan is taken.
        self.assertEqual(way_choice((3, (crossing,)), choice, 0, 2), ((((0, 5),), (1, 2, 4, 0)),))

    def test_rides_car_by_car(self):
        ends = set()
        for town, state, ahead, way, rows, choices in rides(400, seed=3):
            told = ride(town, state, ahead, way, rows, choices)
            plain, waits = plain_ride(town, state, ahead, way, rows, choices)
            self.assertTrue(same(told, plain), (town, state, ahead, way))
            # Each movement is passed in time, or the rows are too short for that.
            for k, ((x, i), frames, a) in enumerate(waits):
                most = best_of(town[1][x], i)[1][i]
                if most > 0:
                    bound = min(bound for bound in range(1, a + 2) if bound * most > a)
                    self.assertLessEqual(frames, bound)
                    if k == 0:
                        self.assertEqual(ride_bound(town, state, way, ahead), bound)
                elif k == 0:
                    self.assertIsNone(ride_bound(town, state, way, ahead))
            ends.add((len(told[0]) == len(way), len(told[0]) > 3))
        self.assertEqual(ends, {(True, True), (True, False), (False, True), (False, False)})

    def test_many_cars_ahead_and_none(self):
        full = ((((0, 2), (1, 2)), (1, 1)), (((0, 6),), (5,)))
        way = ((0, 1), (1, 0))
        for ahead in range(31):
            passed, states = ride(THREE, (3, 31, 0), ahead, way, [(1, 2, 0)] * 40, [full] * 40)
            self.assertEqual(passed[0], ahead // 4)
            self.assertEqual(ride_bound(THREE, (3, 31, 0), way, ahead), ahead // 4 + 1)
            self.assertEqual([len(passed), len(states)], [2, 40])
        self.assertEqual(ride(THREE, (0, 1, 0), 0, way[:1], [(0, 0, 0)], [STILL]), ((0,), [(0, 0, 1)]))
        self.assertEqual(ride(THREE, (0, 1, 0), 0, way, [], []), ((), []))
        self.assertEqual(ride_bound(THREE, (0, 10 ** 9, 0), way, 10 ** 9 - 1), (10 ** 9 - 1) // 4 + 1)

    def test_rows_that_end_before_the_way_does(self):
        self.assertEqual([ride(THREE, (0, 9, 0), 6, ((0, 1), (1, 0)), [(0, 0, 0)] * k, [STILL] * k)[0] for k in range(6)],
                         [(), (), (1,), (1,), (1, 3), (1, 3)])

    def test_ways_that_come_back_to_a_queue(self):
        town = (2, ((((0, 1), (1, 0), (1, None)), ((0, 1, 0, 0), (0, 2, 0, 0)), 4),))
        around = ((0, 0), (0, 1)) * 6
        still = still_choice(town)
        passed, states = ride(town, (3, 0), 2, around, [(0, 0)] * 20, [still] * 20)
        self.assertEqual([passed, states[:3], len(states)], [tuple(range(12)), [(0, 3), (3, 0), (0, 3)], 20])
        self.assertEqual(states[11:], [(3, 0)] * 9)
        self.assertEqual(ride(town, (3, 0), 2, around[:11] + ((0, 2),), [(0, 0)] * 12, [still] * 12)[1][-1], (0, 0))

    def test_behind_all_others_of_the_next_queue(self):
        # Cars that come to the next queue in the same frame, also over later movements, are ahead of it.
        town = (3, ((((0, 2), (1, 2)), (), 3), (((2, None),), (), 3)))
        choice = ((((0, 3),), (2, 2)), (((0, 3),), (2,)))
        passed, states = ride(town, (1, 2, 0), 0, ((0, 0), (1, 0)), [(0, 0, 0)] * 4, [choice] * 4)
        self.assertEqual([passed, states[0]], [(0, 2), (0, 0, 3)])
        # Who comes later waits behind it.
        passed, states = ride(town, (1, 0, 0), 0, ((0, 0), (1, 0)), [(0, 0, 0), (9, 9, 9), (0, 0, 0)], [choice] * 3)
        self.assertEqual(passed, (0, 1))

    def test_a_movement_whose_greatest_capacity_is_0(self):
        town = (2, ((((0, None), (1, 0)), ((0, 1, 12, 0),), 8),))
        self.assertEqual([best_of(town[1][0], 0)[1][0], ride_bound(town, (3, 0), ((0, 0),), 1)], [0, None])
        passed, states = ride(town, (3, 1), 1, ((0, 0),), [(1, 0)] * 9, [still_choice(town)] * 9)
        self.assertEqual([passed, states[-1]], [(), (12, 1)])
        self.assertEqual(ride(town, (0, 1), 0, ((0, 1), (0, 0)), [(0, 0)] * 9, [still_choice(town)] * 9)[0], (0,))

    def test_choices_are_changed_till_it_has_passed(self):
        full = ((((0, 5),), (4, 0)), (((0, 6),), (5,)))
        states = ride(THREE, (20, 2, 0), 0, ((0, 1),), [(0, 0, 0)] * 3, [full] * 3)[1]
        self.assertEqual(states, [(20, 0, 2), (16, 0, 4), (12, 0, 4)])

    def test_two_hundred_frames(self):
        passed, states = ride(THREE, (0, 700, 0), 699, ((0, 1), (1, 0)), [(0, 0, 0)] * 200, [STILL] * 200)
        self.assertEqual([passed, len(states)], [(174,), 200])


def towns_of_one_length(many, seed):
    chance = random.Random(seed)
    found = []
    for _ in range(many):
        length = chance.randint(1, 12)
        found.append((town_by_chance(chance, length=length), town_by_chance(chance, length=length)))
    return found


def ties_by_chance(chance, one, other):
    leads_out = [(x, i) for x, crossing in enumerate(one[1]) for i, (_, to) in enumerate(crossing[0]) if to is None]
    return tuple((place, chance.choice((0, chance.randrange(other[0])))) for place in leads_out if chance.random() < 0.7)


class Together(unittest.TestCase):
    def test_side_by_side_both_go_as_each_does_alone(self):
        chance = random.Random(4)
        for one, other in towns_of_one_length(80, seed=5):
            both = side_by_side(one, other)
            self.assertTrue(is_town(both))
            self.assertEqual([both[0], both[1][:len(one[1])]], [one[0] + other[0], one[1]])
            state = row_by_chance(chance, both[0], 9)
            rows = [row_by_chance(chance, both[0], 4) for _ in range(8)]
            choices = [choice_by_chance(chance, both) for _ in rows]
            self.assertTrue(all(is_choice(one, choice[:len(one[1])]) and is_choice(other, choice[len(one[1]):]) for choice in choices))
            alone = [run(town, apart(one, other, state)[k], [apart(one, other, row)[k] for row in rows],
                         [(choice[:len(one[1])], choice[len(one[1]):])[k] for choice in choices])
                     for k, town in enumerate((one, other))]
            for k, there in enumerate(run(both, state, rows, choices)):
                self.assertTrue(same(apart(one, other, there), (alone[0][k], alone[1][k])))

    def test_what_crosses_stays(self):
        one = (2, ((((0, 1), (1, None)), ((0, 1, 2, 3),), 7),))
        self.assertEqual([side_by_side(one, one), side_by_side(THREE, (1, ((((0, None),), (), 6),)))],
                         [(4, (one[1][0], (((2, 3), (3, None)), ((0, 1, 2, 3),), 7))), (4, (FIRST, LAST, (((3, None),), (), 6)))])
        most = (12, tuple((((3 * x, 3 * x + 1), (3 * x + 1, None)), (), 5) for x in range(4)))
        self.assertTrue(is_town(side_by_side(most, most)))
        self.assertEqual([apart(THREE, one, (1, 2, 3, 4, 5)), apart(one, THREE, (1, 2, 3, 4, 5))], [((1, 2, 3), (4, 5)), ((1, 2), (3, 4, 5))])

    def test_tied_frame_by_frame(self):
        chance = random.Random(6)
        counts = []
        for one, other in towns_of_one_length(150, seed=7):
            ties = ties_by_chance(chance, one, other)
            town, n = tied(one, other, ties), one[0]
            self.assertTrue(is_town(town))
            state = row_by_chance(chance, town[0], 9)
            rows = [row_by_chance(chance, town[0], chance.choice((0, 4))) for _ in range(8)]
            choices = [choice_by_chance(chance, town) for _ in rows]
            comings = tie_rows(one, other, ties, state, rows, choices)
            there = run(town, state, rows, choices)
            mine = run(one, state[:n], [row[:n] for row in rows], [choice[:len(one[1])] for choice in choices])
            its = run(other, state[n:], comings, [choice[len(one[1]):] for choice in choices])
            at, over = state, (0,) * other[0]
            for k, (row, choice) in enumerate(zip(rows, choices)):
                # What was led over ties in the frame ahead comes in.
                self.assertTrue(same(comings[k], tuple(map(sum, zip(row[n:], over)))))
                cars = led(town, tuple(map(sum, zip(at, row))), choice)
                over = tuple(sum(cars[x][i] for (x, i), q in ties if q == queue) for queue in range(other[0]))
                at = frame(town, at, row, choice)
                self.assertEqual([at[:n], at[n:]], [mine[k], tuple(map(sum, zip(its[k], over)))])
                self.assertEqual(at, there[k])
            counts.append(len(ties))
        self.assertGreaterEqual(set(counts), {0, 1, 2})

    def test_no_ties_and_several_into_one_queue(self):
        one = (2, ((((0, None), (1, None)), (), 4), ))
        other = (1, ((((0, None),), (), 4),))
        full = ((((0, 4),), (3, 3)), (((0, 4),), (3,)))
        self.assertEqual([tied(one, other, ()) == side_by_side(one, other), tie_rows(one, other, (), (2, 2, 2), [(1, 1, 1)] * 2, [full] * 2)],
                         [True, [(1,), (1,)]])
        ties = (((0, 0), 0), ((0, 1), 0))
        self.assertEqual(tied(one, other, ties), (3, ((((0, 2), (1, 2)), (), 4), (((2, None),), (), 4))))
        self.assertEqual(tie_rows(one, other, ties, (2, 4, 0), [(1, 0, 7), (0, 0, 0), (0, 0, 1)], [full] * 3), [(7,), (6,), (2,)])
        self.assertEqual(tie_rows(one, other, ties, (2, 4, 0), [], []), [])

    def test_movements_that_lead_within_a_town_stay(self):
        one = (3, ((((0, 1), (0, None)), ((0, 1, 0, 4),), 9), (((1, None), (2, 0)), (), 9)))
        self.assertEqual(tied(one, one, (((0, 1), 2), ((1, 0), 0))),
                         (6, ((((0, 1), (0, 5)), ((0, 1, 0, 4),), 9), (((1, 3), (2, 0)), (), 9),
                              (((3, 4), (3, None)), ((0, 1, 0, 4),), 9), (((4, None), (5, 3)), (), 9))))

    def test_answers_are_plain_values(self):
        self.assertTrue(all(plain_int(cars) for comings in tie_rows(THREE, THREE, (((1, 0), 1),), (3,) * 6, [(1,) * 6] * 3, [STILL * 2] * 3)
                            for cars in comings))


if __name__ == "__main__":
    unittest.main()
