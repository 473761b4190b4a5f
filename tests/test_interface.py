"""[0.2] and the interface: the names and arguments, each defined in its file, and arguments left as they are."""

import ast
import copy
import doctest
import os
import unittest

import greenheld
from greenheld.lamps import judge_lamps, lamp_rows
from greenheld.leading import judge_best
from greenheld.plans import is_plan, judge_plan
from greenheld.stages import is_stage, judge_cover
from greenheld.sums import is_fraction, judge_barred, judge_kept, judge_most
from greenheld.texts import is_counts
from greenheld.towns import is_town, judge_town, judge_way_out
from tests.support import EAST, ODD_VALUES, TOWN, same

FUNCTIONS = {
    "towns": "judge_town(value) is_town(value) crossing_of(town,q) movements_from(town,q) movements_into(town,q) "
             "exits(town) do_cross(crossing,i,j) clearance(crossing,i,j) way_out(town,q) judge_way_out(town,q,value) "
             "shut_queues(town) reached_from(town,q)",
    "stages": "stages(crossing) is_stage(crossing,value) clear_ticks(crossing,s) least_cover(crossing) "
              "greatest_hand(crossing) shares_of_cover(crossing) judge_cover(crossing,value)",
    "texts": "crossing_text(crossing) read_crossing(text) town_text(town) read_town(text) counts_text(counts) "
             "read_counts(text) is_counts(town,value) scaled_counts(counts,k) added_counts(one,other) fraction_text(f) "
             "read_fraction(text)",
    "plans": "need_of(crossing,plan) judge_plan(crossing,value) is_plan(crossing,value) capacity_of(crossing,plan) "
             "is_above(one,other)",
    "lamps": "greens(crossing,plan) lamps_at(crossing,plan,tick) lamp_rows(crossing,plans) judge_lamps(crossing,rows)",
    "leading": "leading_plans(crossing) leading_capacities(crossing) plan_for(crossing,wanted) "
               "worth_of(crossing,plan,weights) best_plan(crossing,weights) judge_best(crossing,weights,value) "
               "mixed_capacity(crossing,shares) round_counts(crossing,shares) spread_round(crossing,shares)",
    "sums": "fraction(u,e) added(x,y) lessened(x,y) multiplied(x,y) divided(x,y) compared(x,y) summed(some) "
            "is_fraction(value) kept_or_barred(n,rows,rights) judge_kept(n,rows,rights,value) "
            "judge_barred(n,rows,rights,value) most_of(n,rows,rights,worth) judge_most(n,rows,rights,worth,value)",
}
SYSTEM = (2, (((1, 1), (1, 1)), ((1, 1), (0, 1))), ((3, 1), (2, 1)))
WORTH = ((2, 1), (1, 1))
LOOKING = (
    judge_town, is_town, is_fraction, lambda value: judge_way_out(TOWN, 0, value), lambda value: is_stage(EAST, value),
    lambda value: judge_cover(EAST, value), lambda value: is_counts(TOWN, value), lambda value: judge_plan(EAST, value),
    lambda value: is_plan(EAST, value), lambda value: judge_best(EAST, ((1, 1),) * 3, value),
    lambda value: judge_kept(*SYSTEM, value), lambda value: judge_barred(*SYSTEM, value),
    lambda value: judge_most(*SYSTEM, WORTH, value),
)


class Interface(unittest.TestCase):
    def test_each_function_stands_in_its_file(self):
        for name, functions in FUNCTIONS.items():
            path = os.path.join(os.path.dirname(greenheld.__file__), name + ".py")
            with open(path, encoding="utf-8") as file:
                tree = ast.parse(file.read())
            told = {f"{node.name}({','.join(arg.arg for arg in node.args.args)})"
                    for node in tree.body if isinstance(node, ast.FunctionDef)}
            self.assertLessEqual(set(functions.split()), told)

    def test_arguments_stay_and_answers_are_equal(self):
        for look in LOOKING:
            for value in ODD_VALUES:
                before = copy.deepcopy(value)
                one = look(value)
                self.assertTrue(same(look(value), one))
                self.assertTrue(same(value, before))

    def test_what_the_readme_shows(self):
        readme = os.path.join(os.path.dirname(os.path.dirname(greenheld.__file__)), "README.md")
        failed, tried = doctest.testfile(readme, module_relative=False)
        self.assertEqual(failed, 0)
        self.assertGreater(tried, 10)

    def test_lists_stay(self):
        plans = [((0, 4), (1, 3)), ()]
        rows = lamp_rows(EAST, plans)
        before = list(rows)
        self.assertIsNone(judge_lamps(EAST, rows))
        self.assertEqual([rows, plans], [before, [((0, 4), (1, 3)), ()]])


if __name__ == "__main__":
    unittest.main()
