"""The examples of the document's interface, with the answers as they stand there."""

import doctest
import os
import unittest

from greenheld.errors import BadText
from greenheld.lamps import greens, judge_lamps, lamp_rows, lamps_at
from greenheld.leading import (best_plan, judge_best, leading_capacities, leading_plans, mixed_capacity, plan_for,
                               round_counts, spread_round, worth_of)
from greenheld.plans import capacity_of, is_above, is_plan, judge_plan, need_of
from greenheld.scripts import read_event
from greenheld.stages import (clear_ticks, greatest_hand, is_stage, judge_cover, least_cover, shares_of_cover,
                              stages)
from greenheld.sums import (added, compared, divided, fraction, is_fraction, judge_barred, judge_kept, judge_most,
                            kept_or_barred, lessened, most_of, multiplied, summed)
from greenheld.texts import (added_counts, counts_text, crossing_text, fraction_text, is_counts, read_counts,
                             read_crossing, read_fraction, read_town, scaled_counts, town_text)
from greenheld.towns import (clearance, crossing_of, do_cross, exits, is_town, judge_town, judge_way_out,
                             movements_from, movements_into, reached_from, shut_queues, way_out)

EAST = (((0, 2), (1, None), (1, 2)), ((0, 1, 2, 3), (0, 2, 1, 1)), 12)
BOTH = ((0, 4), (1, 3))


class StageOne(unittest.TestCase):
    def test_towns_judged(self):
        town = (4, (EAST, (((2, None), (3, 3)), (), 12)))
        self.assertEqual([judge_town(town), judge_town((4, (EAST, (((2, None), (3, 2)), ((0, 1, 0, 0),), 10)))),
                          judge_town((3, (EAST, (((1, 0),), (), 12)))), judge_town((1, (EAST,)))],
                         [('crossing', 1), ('length', 1), ('queue', 1), ('crossing', 0)])

    def test_towns(self):
        town = (4, (EAST, (((2, None), (3, 2)), ((0, 1, 0, 0),), 12)))
        self.assertEqual([is_town(town), crossing_of(town, 2), movements_from(town, 1), movements_into(town, 2),
                          exits(town), do_cross(EAST, 1, 0), clearance(EAST, 0, 1), clearance(EAST, 1, 0),
                          clearance(EAST, 1, 2)],
                         [True, 1, (1, 2), ((0, 0), (0, 2), (1, 1)), ((0, 1), (1, 0)), True, 2, 3, 0])
        self.assertEqual([way_out(town, 0), way_out(town, 1), shut_queues(town), reached_from(town, 3),
                          judge_way_out(town, 0, ((0, 0),)), judge_way_out(town, 0, ((0, 2), (1, 0)))],
                         [((0, 0), (1, 0)), ((0, 1),), (), (2,), ('end',), ('step', 0)])

    def test_stages(self):
        self.assertEqual([stages(EAST), is_stage(EAST, (1,)), is_stage(EAST, (1, 2)), clear_ticks(EAST, 0),
                          clear_ticks(EAST, 1)],
                         [((0,), (1, 2)), False, True, 2, 3])
        self.assertEqual([least_cover(EAST), greatest_hand(EAST), shares_of_cover(EAST), judge_cover(EAST, (1,)),
                          judge_cover(EAST, (1, 0))],
                         [(0, 1), (0, 1), ((0, 1), (0, 1)), ('movement', 0), ('form',)])


class StageTwo(unittest.TestCase):
    def test_texts(self):
        east = (((0, 2), (1, None)), ((0, 1, 2, 3),), 12)
        town = (3, (east, (((2, None),), (), 12)))
        self.assertEqual(town_text(town).split("\n"),
                         ['queues 3', 'crossing 12', 'move 0 to 2', 'move 1 to out', 'cross 0 1 clear 2 3',
                          'crossing 12', 'move 2 to out'])
        self.assertEqual([read_town(town_text(town)) == town, read_crossing(crossing_text(east)) == east,
                          read_town("queues 0"), read_crossing("crossing 5")],
                         [True, True, (0, ()), ((), (), 5)])
        self.assertEqual([counts_text((3, 0, 12)), read_counts("counts 3 0"), is_counts(town, (1, 2, 3)),
                          is_counts(town, (1, 2)), scaled_counts((1, 2), 3), added_counts((1, 2), (0, 5))],
                         ['counts 3 0 12', (3, 0), True, False, (3, 6), (1, 7)])
        self.assertEqual([fraction_text((3, 2)), fraction_text((-4, 1)), read_fraction("-1/3"), read_fraction("0")],
                         ['3/2', '-4', (-1, 3), (0, 1)])

    def test_texts_refused(self):
        with self.assertRaises(BadText) as caught:
            read_town("queues 3\ncrossing 12\ncross 0 1 clear 2")
        self.assertEqual(caught.exception.place, 38)
        with self.assertRaises(BadText) as caught:
            read_fraction("2/4")
        self.assertEqual(caught.exception.place, 0)


class StageThree(unittest.TestCase):
    def test_plans(self):
        self.assertEqual([need_of(EAST, BOTH), capacity_of(EAST, BOTH), is_plan(EAST, BOTH), need_of(EAST, ()),
                          capacity_of(EAST, ((0, 1), (1, 2), (0, 3)))],
                         [12, (3, 2, 2), True, 0, (2, 1, 1)])
        self.assertEqual([judge_plan(EAST, BOTH), judge_plan(EAST, ((0, 5), (1, 3))),
                          judge_plan(EAST, ((0, 1), (0, 1))), judge_plan(EAST, ((2, 1),)), judge_plan(EAST, [])],
                         [None, ('long', 13), ('twice', 1), ('form',), ('form',)])
        self.assertEqual([is_above((3, 2, 2), (3, 1, 2)), is_above((3, 2, 2), (3, 2, 2)), is_above((3, 0), (2, 1))],
                         [True, False, False])

    def test_lamps(self):
        self.assertEqual([greens(EAST, BOTH), lamps_at(EAST, BOTH, 3), lamps_at(EAST, BOTH, 5),
                          lamps_at(EAST, BOTH, 6)],
                         [((0, 0, 4), (1, 6, 9), (2, 6, 9)), (0,), (), (1, 2)])
        rows = lamp_rows(EAST, [BOTH, ()])
        self.assertEqual([len(rows), rows[:5], judge_lamps(EAST, rows), judge_lamps(EAST, [(0,), (), (1, 2)]),
                          judge_lamps(EAST, [(0,), (0, 1)]), judge_lamps(EAST, [(0,), (), (), (1,)])],
                         [24, [(0,), (0,), (0,), (0,), ()], None, ('early', 2, 0, 1), ('crossed', 1, 0, 1), None])

    def test_leading(self):
        self.assertEqual(leading_plans(EAST),
                         (((0, 2), (1, 5)), ((0, 3), (1, 4)), ((0, 4), (1, 3)), ((0, 5), (1, 2)), ((0, 10),),
                          ((1, 9),)))
        self.assertEqual([leading_capacities(EAST), plan_for(EAST, (2, 1, 2)), plan_for(EAST, (5, 1, 0)),
                          plan_for(EAST, (0, 0, 0))],
                         [((1, 4, 4), (2, 3, 3), (3, 2, 2), (4, 1, 1), (9, 0, 0), (0, 8, 8)), ((0, 3), (1, 3)), None,
                          ()])

    def test_best(self):
        weights = ((1, 1), (1, 1), (0, 1))
        self.assertEqual([best_plan(EAST, weights), worth_of(EAST, BOTH, weights),
                          best_plan(EAST, ((1, 3), (1, 2), (1, 2)))],
                         [((9, 1), ((0, 10),)), (5, 1), ((8, 1), ((1, 9),))])
        self.assertEqual([judge_best(EAST, weights, ((9, 1), ((0, 10),))), judge_best(EAST, weights, ((5, 1), BOTH)),
                          judge_best(EAST, weights, ((4, 1), BOTH)), judge_best(EAST, weights, (9, ((0, 10),)))],
                         [None, ('more', ((0, 10),)), ('worth', (5, 1)), ('form',)])

    def test_rounds(self):
        shares = ((0, 1), (0, 1), (1, 2), (0, 1), (1, 4), (1, 4))
        self.assertEqual([mixed_capacity(EAST, shares), round_counts(EAST, shares), spread_round(EAST, shares)],
                         [((15, 4), (3, 1), (3, 1)), (0, 0, 2, 0, 1, 1), (2, 2, 4, 5)])


class StageFour(unittest.TestCase):
    def test_fractions(self):
        self.assertEqual([fraction(6, -4), added((1, 2), (1, 3)), lessened((1, 2), (1, 2)),
                          multiplied((2, 3), (3, 4)), divided((1, 2), (-1, 4)), compared((1, 3), (1, 2))],
                         [(-3, 2), (5, 6), (0, 1), (1, 2), (-2, 1), -1])
        self.assertEqual([summed(()), summed(((1, 2), (1, 2))), is_fraction((2, 4)), is_fraction((0, 1)),
                          is_fraction((1, -2))],
                         [(0, 1), (1, 1), False, True, False])

    def test_systems(self):
        self.assertEqual([kept_or_barred(1, (((1, 1),),), ((-1, 1),))[0],
                          kept_or_barred(2, (((1, 1), (1, 1)),), ((3, 1),))[0],
                          kept_or_barred(0, ((),), ((-1, 2),))[0]],
                         ['bars', 'keeps', 'bars'])
        rows, rights = (((1, 1), (1, 1)), ((1, 1), (0, 1))), ((3, 1), (2, 1))
        self.assertEqual([most_of(2, rows, rights, ((2, 1), (1, 1))), most_of(1, (), (), ((1, 1),))[0]],
                         [('most', (5, 1), ((2, 1), (1, 1)), ((1, 1), (1, 1))), 'endless'])
        self.assertEqual([judge_kept(2, rows, rights, ((3, 1), (0, 1))), judge_kept(2, rows, rights, ((-1, 1), (0, 1))),
                          judge_barred(2, rows, rights, ((1, 1), (0, 1)))],
                         [('row', 1), ('below', 0), ('right',)])
        self.assertEqual([judge_most(2, rows, rights, ((2, 1), (1, 1)),
                                     ("most", (5, 1), ((2, 1), (1, 1)), ((2, 1), (0, 1)))),
                          judge_most(2, rows, rights, ((2, 1), (1, 1)), None)],
                         [('rates',), ('form',)])


class StagesFromFour(unittest.TestCase):
    def test_as_they_stand_there(self):
        path = os.path.join(os.path.dirname(os.path.abspath(__file__)), "examples.txt")
        failed, tried = doctest.testfile(path, module_relative=False)
        self.assertEqual([failed, tried], [0, 123])

    def test_a_text_refused(self):
        with self.assertRaises(BadText) as caught:
            read_event("lamp 0 red 1 off")
        self.assertEqual(caught.exception.place, 14)


if __name__ == "__main__":
    unittest.main()
