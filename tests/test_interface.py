"""[0.2] and the interface: the names and arguments, each defined in its file, and arguments left as they are."""

import ast
import copy
import doctest
import os
import unittest

import greenheld
from greenheld.changes import judge_apart
from greenheld.comings import eased, fullest, judge_comings, looks
from greenheld.desk import Desk
from greenheld.flows import judge_carried
from greenheld.frames import is_choice, is_state, judge_run, left_town, most_waiting, run, still_choice
from greenheld.interlock import is_wish, lamp_heard, new_interlock, wish_heard
from greenheld.joining import ride, tie_rows
from greenheld.lamps import judge_lamps, lamp_rows
from greenheld.leading import judge_best
from greenheld.looking import judge_looked, judge_looked_run, looked_run
from greenheld.plans import is_plan, judge_plan
from greenheld.slack import judge_slack, judge_steepest
from greenheld.stages import is_stage, judge_cover
from greenheld.sums import is_fraction, judge_barred, judge_kept, judge_most
from greenheld.tales import judge_tale, tale_of
from greenheld.texts import is_counts
from greenheld.timetables import is_timetable, judge_timetable, least_bound
from greenheld.towns import is_town, judge_town, judge_way_out
from greenheld.waves import judge_ring
from greenheld.world import after, is_event, judge_world, new_world, played
from tests.support import EAST, ODD_VALUES, TOWN, same

FUNCTIONS = {
    "towns": "judge_town(value) is_town(value) crossing_of(town,q) movements_from(town,q) movements_into(town,q) "
             "exits(town) do_cross(crossing,i,j) clearance(crossing,i,j) way_out(town,q) judge_way_out(town,q,value) "
             "shut_queues(town) reached_from(town,q)",
    "stages": "stages(crossing) is_stage(crossing,value) clear_ticks(crossing,s) least_cover(crossing) "
              "greatest_hand(crossing) shares_of_cover(crossing) judge_cover(crossing,value)",
    "texts": "crossing_text(crossing) read_crossing(text) town_text(town) read_town(text) counts_text(counts) "
             "read_counts(text) is_counts(town,value) scaled_counts(counts,k) added_counts(one,other) fraction_text(f) "
             "read_fraction(text)",
    "plans": "need_of(crossing,plan) judge_plan(crossing,value) is_plan(crossing,value) capacity_of(crossing,plan) "
             "is_above(one,other)",
    "lamps": "greens(crossing,plan) lamps_at(crossing,plan,tick) lamp_rows(crossing,plans) judge_lamps(crossing,rows)",
    "leading": "leading_plans(crossing) leading_capacities(crossing) plan_for(crossing,wanted) "
               "worth_of(crossing,plan,weights) best_plan(crossing,weights) judge_best(crossing,weights,value) "
               "mixed_capacity(crossing,shares) round_counts(crossing,shares) spread_round(crossing,shares)",
    "sums": "fraction(u,e) added(x,y) lessened(x,y) multiplied(x,y) divided(x,y) compared(x,y) summed(some) "
            "is_fraction(value) kept_or_barred(n,rows,rights) judge_kept(n,rows,rights,value) "
            "judge_barred(n,rows,rights,value) most_of(n,rows,rights,worth) judge_most(n,rows,rights,worth,value)",
    "flows": "pull(town,prices,c) gain(town,counts,prices) carried(town,counts) judge_carried(town,counts,value)",
    "slack": "slack_of(town,counts) judge_slack(town,counts,value) room_at(town,counts,q) rooms(town,counts) "
             "tight_queues(town,counts) factor_of(town,counts) first_lost(town,some) mixed_counts(some,shares) "
             "greatest_of(some) steepest(town,counts) judge_steepest(town,counts,value)",
    "timetables": "table_choice(table,t) round_lets(town,table) is_timetable(town,value) timetable(town,shares,flows) "
                  "judge_timetable(town,counts,value) turned_table(table,k) round_bound(town,counts,table,state) "
                  "table_bound(town,counts,table,state) rounds_till(town,counts,table,state) "
                  "longest_wait(town,counts,table,state) spread(town,table) least_bound(town,counts,tables)",
    "frames": "is_state(town,value) is_choice(town,value) led(town,state,choice) frame(town,state,comings,choice) "
              "run(town,state,rows,choices) left_town(town,state,rows,choices) priced(prices,state) "
              "step_of(prices,movement) paid(town,prices,led_cars) grown(town,counts,prices,frames) still_choice(town) "
              "full_choice(town,numbers) judge_run(town,state,rows,choices,value) above(one,other) most_waiting(states)",
    "looking": "look_falls(town,state) pressures(town,state) looked(town,state) judge_looked(town,state,value) "
               "squares_of(state) cars_in(state) most_out(town) most_in(town) fall_constant(town,counts) "
               "allowed_squares(town,counts,e,state) steady(town,counts,e) frames_till(town,counts,e,state) "
               "queue_bound(town,counts,e) looked_run(town,state,rows) "
               "judge_looked_run(town,counts,e,state,rows,value) scaled(state,m) same_look(town,one,other) "
               "calmest(town,state)",
    "comings": "excess(counts,rows) judge_comings(town,counts,spare,value) fullest(counts,spare,frames) "
               "eased(counts,rows) next_look(look,before,behind,wrong) seen_empty(look,state) "
               "looks(town,state,rows,choices,wrongs) error_of(look,state) choice_worth(town,state,choice) "
               "best_worth(town,state) look_loss(town,e)",
    "interlock": "foes_of(crossing,i) widest_clearance(crossing) new_interlock(crossing) is_wish(crossing,value) "
                 "wish_heard(crossing,interlock,value) lamp_heard(crossing,interlock,value) "
                 "next_shown(crossing,interlock) may_begin_at(crossing,interlock,i)",
    "tales": "judge_tale(crossing,tale) cars_let(crossing,tale) tale_of(crossing,happenings) wishes_for(tale,first)",
    "waves": "wish_of(one,begin,other,late,time) kept(wishes,L,offsets) offsets_for(m,wishes,L) "
             "judge_ring(m,wishes,L,value) turned_offsets(offsets,L,ticks) best_offsets(m,wishes,weights,L) "
             "least_dropped(m,wishes,L)",
    "bands": "arrivals(line,start) passes(line,greens,L,offsets,start) band(line,greens,L,offsets) band_bound(greens) "
             "offsets_of_line(m,line,greens,L) back_line(line) both_bands(line,greens,backs,L,offsets) "
             "best_both(m,line,greens,backs,L) full_both(line,greens,backs,L) full_paper(line,greens,backs,L)",
    "changes": "kept_numbers(town,gone) closed_town(town,gone) is_served(town,gone) breaking(town) ways_apart(town,q) "
               "least_breaking(town) judge_apart(town,q,value)",
    "joining": "way_choice(town,choice,x,i) ride(town,state,ahead,way,rows,choices) ride_bound(town,state,way,ahead) "
               "side_by_side(one,other) tied(one,other,ties) apart(one,other,state) "
               "tie_rows(one,other,ties,state,rows,choices)",
    "world": "new_world(town,state) orders_now(world) is_event(world,value) after(world,event) played(world,script) "
             "cars_there(world) shown_greens(world,x,tick) waited(world) judge_world(world) "
             "run_on(world,comings,frames) fullest_queue(world) settled_for(world,counts,e)",
    "scripts": "event_text(event) read_event(text) script_text(script) read_script(text)",
}
CLASSES = {
    ("house", "House"): "__init__(self,town,state) world(self) deeds(self) do(self,deed) undo(self) redo(self) twin(self) "
                        "state(self) look(self) stand(self) modes(self) shown(self) orders(self) safe(self) "
                        "holds(self,counts)",
    ("desk", "Desk"): "__init__(self,town,state) house(self) say(self,line)",
}
SYSTEM = (2, (((1, 1), (1, 1)), ((1, 1), (0, 1))), ((3, 1), (2, 1)))
WORTH = ((2, 1), (1, 1))
COUNTS = (1, 0, 2, 0)
WORLD = new_world(TOWN, COUNTS)
LOOKING = (
    judge_town, is_town, is_fraction, lambda value: judge_way_out(TOWN, 0, value), lambda value: is_stage(EAST, value),
    lambda value: judge_cover(EAST, value), lambda value: is_counts(TOWN, value), lambda value: judge_plan(EAST, value),
    lambda value: is_plan(EAST, value), lambda value: judge_best(EAST, ((1, 1),) * 3, value),
    lambda value: judge_kept(*SYSTEM, value), lambda value: judge_barred(*SYSTEM, value),
    lambda value: judge_most(*SYSTEM, WORTH, value), lambda value: judge_carried(TOWN, COUNTS, value),
    lambda value: judge_slack(TOWN, COUNTS, value), lambda value: judge_steepest(TOWN, (30,) * 4, value),
    lambda value: is_timetable(TOWN, value), lambda value: judge_timetable(TOWN, COUNTS, value),
    lambda value: is_state(TOWN, value), lambda value: is_choice(TOWN, value),
    lambda value: judge_run(TOWN, COUNTS, [COUNTS], [still_choice(TOWN)], value),
    lambda value: judge_looked(TOWN, COUNTS, value),
    lambda value: judge_looked_run(TOWN, COUNTS, (1, 1), COUNTS, [COUNTS], value),
    lambda value: judge_comings(TOWN, COUNTS, 0, value), lambda value: is_wish(EAST, value),
    lambda value: wish_heard(EAST, new_interlock(EAST), value),
    lambda value: lamp_heard(EAST, new_interlock(EAST), value), lambda value: judge_tale(EAST, value),
    lambda value: tale_of(EAST, [("wish", value), ("tick",), ("lamp", value), ("tick",)]),
    lambda value: is_event(WORLD, value), lambda value: Desk(TOWN, COUNTS).say(value),
    lambda value: after(WORLD, ("lamp", 0, value)), lambda value: judge_world({**WORLD, "tales": (value, ())}),
    lambda value: judge_ring(2, ((0, 1, 3), (1, 0, 4)), 10, value), lambda value: judge_apart(TOWN, 0, value),
)


def tree_of(name):
    """What a file of the package is made of."""
    path = os.path.join(os.path.dirname(greenheld.__file__), name + ".py")
    with open(path, encoding="utf-8") as file:
        return ast.parse(file.read())


def defined_in(body):
    """The functions that stand there, with their arguments."""
    return {f"{node.name}({','.join(arg.arg for arg in node.args.args)})" for node in body if isinstance(node, ast.FunctionDef)}


class Interface(unittest.TestCase):
    def test_each_function_stands_in_its_file(self):
        for name, functions in FUNCTIONS.items():
            self.assertLessEqual(set(functions.split()), defined_in(tree_of(name).body))

    def test_each_method_stands_in_its_class(self):
        for (name, word), methods in CLASSES.items():
            bodies = [node.body for node in tree_of(name).body if isinstance(node, ast.ClassDef) and node.name == word]
            self.assertEqual(len(bodies), 1)
            self.assertEqual(set(methods.split()), defined_in(bodies[0]))

    def test_arguments_stay_and_answers_are_equal(self):
        for look in LOOKING:
            for value in ODD_VALUES:
                before = copy.deepcopy(value)
                one = look(value)
                self.assertTrue(same(look(value), one))
                self.assertTrue(same(value, before))

    def test_what_the_readme_shows(self):
        readme = os.path.join(os.path.dirname(os.path.dirname(greenheld.__file__)), "README.md")
        failed, tried = doctest.testfile(readme, module_relative=False)
        self.assertEqual(failed, 0)
        self.assertGreater(tried, 10)

    def test_lists_stay(self):
        plans = [((0, 4), (1, 3)), ()]
        rows = lamp_rows(EAST, plans)
        before = list(rows)
        self.assertIsNone(judge_lamps(EAST, rows))
        self.assertEqual([rows, plans], [before, [((0, 4), (1, 3)), ()]])

    def test_lists_stay_and_may_be_tuples(self):
        still, rows = still_choice(TOWN), [COUNTS, (0, 9, 0, 9)]
        choices, wrongs, tables = [still, still], [(1, 0, -1, 0), (0, 0, 0, 0)], [(still,), (still, still)]
        one = (1, ((((0, None),), (), 4),))
        happenings = [("wish", (1, (0,), 3)), ("tick",), ("lamp", ["red"]), ("tick",)]
        for call, told in ((run, (TOWN, COUNTS, rows, choices)), (left_town, (TOWN, COUNTS, rows, choices)),
                           (looks, (TOWN, COUNTS, rows, choices, wrongs)), (looked_run, (TOWN, COUNTS, rows)),
                           (most_waiting, (rows,)), (least_bound, (TOWN, (0,) * 4, tables)), (tale_of, (EAST, happenings)),
                           (played, (WORLD, [("frame", COUNTS, COUNTS), ("fall", 0), ("lamp", 1, [None])])),
                           (ride, (TOWN, (1, 2, 0, 0), 1, ((0, 2), (1, 0)), rows, choices)),
                           (tie_rows, (one, one, (((0, 0), 0),), (1, 2), [(1, 1)], [(((), (0,)),) * 2]))):
            before = copy.deepcopy(told)
            answer = call(*told)
            self.assertTrue(same(told, before))
            self.assertTrue(same(call(*[tuple(part) if isinstance(part, list) else part for part in told]), answer))
        self.assertEqual([type(eased((1,), ())), type(fullest((1,), 2, 3))], [tuple, tuple])


if __name__ == "__main__":
    unittest.main()
