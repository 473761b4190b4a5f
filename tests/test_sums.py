"""[4.1] to [4.4], [4.7]: fractions, and what keeps or bars systems."""

import random
import unittest
from fractions import Fraction
from itertools import product

from greenheld.sums import (added, compared, divided, fraction, is_fraction, judge_barred, judge_kept, judge_most,
                            kept_or_barred, lessened, most_of, multiplied, summed)
from tests.support import ODD_VALUES, same, within


def pair_of(number):
    number = Fraction(number)
    return (number.numerator, number.denominator)


def pairs_of(numbers):
    return tuple(pair_of(number) for number in numbers)


def number_by_chance(chance, size):
    return Fraction(chance.randint(-size, size), chance.randint(1, size))


def plain_is_fraction(value):
    if type(value) is not tuple or len(value) != 2 or type(value[0]) is not int or type(value[1]) is not int:
        return False
    return value[1] >= 1 and Fraction(*value).denominator == value[1]


def are_fractions(value, many):
    return type(value) is tuple and len(value) == many and all(plain_is_fraction(part) for part in value)


def total(one, other):
    return sum((Fraction(*a) * Fraction(*b) for a, b in zip(one, other)), Fraction(0))


def columns(n, rows, times):
    return [total([row[j] for row in rows], times) for j in range(n)]


def plain_kept(n, rows, rights, value):
    if not are_fractions(value, n):
        return ("form",)
    for j in range(n):
        if Fraction(*value[j]) < 0:
            return ("below", j)
    for i, row in enumerate(rows):
        if total(row, value) > Fraction(*rights[i]):
            return ("row", i)
    return None


def plain_barred(n, rows, rights, value):
    if not are_fractions(value, len(rows)):
        return ("form",)
    for i in range(len(rows)):
        if Fraction(*value[i]) < 0:
            return ("below", i)
    for j, number in enumerate(columns(n, rows, value)):
        if number < 0:
            return ("place", j)
    return None if total(rights, value) < 0 else ("right",)


def plain_way(n, rows, worth, way):
    return (are_fractions(way, n) and all(u >= 0 for u, _ in way) and total(worth, way) > 0
            and all(total(row, way) <= 0 for row in rows))


def plain_rates(n, rows, rights, worth, amount, rates):
    return (are_fractions(rates, len(rows)) and all(u >= 0 for u, _ in rates)
            and all(a >= Fraction(*b) for a, b in zip(columns(n, rows, rates), worth))
            and total(rights, rates) == Fraction(*amount))


def plain_most(n, rows, rights, worth, value):
    forms = {"bars": 2, "endless": 3, "most": 4}
    if type(value) is not tuple or not value or type(value[0]) is not str or forms.get(value[0]) != len(value):
        return ("form",)
    if value[0] == "most" and not plain_is_fraction(value[1]):
        return ("form",)
    if value[0] == "bars":
        fault = plain_barred(n, rows, rights, value[1])
        return fault and ("barred", fault)
    told = value[-2]
    fault = plain_kept(n, rows, rights, told)
    if fault:
        return ("kept", fault)
    if value[0] == "endless":
        return None if plain_way(n, rows, worth, value[2]) else ("way",)
    if total(worth, told) != Fraction(*value[1]):
        return ("amount",)
    return None if plain_rates(n, rows, rights, worth, value[1], value[3]) else ("rates",)


def system_by_chance(chance, most_rows=5, most_places=5):
    """n, rows, rights and worth, with many noughts, like rows and turned rows."""
    n, m = chance.randint(0, most_places), chance.randint(0, most_rows)
    size = chance.choice((1, 2, 3, 9, 10 ** 9 - 1))
    dense = chance.choice((0.3, 0.7, 1))
    rows = []
    for _ in range(m):
        if rows and chance.random() < 0.2:
            sign = chance.choice((1, -1))
            rows.append([sign * number for number in chance.choice(rows)])
        else:
            rows.append([number_by_chance(chance, size) if chance.random() < dense else Fraction(0) for _ in range(n)])
    rights = [number_by_chance(chance, size) if chance.random() < 0.7 else Fraction(0) for _ in range(m)]
    if chance.random() < 0.3:
        rights = [abs(right) for right in rights]
    worth = [number_by_chance(chance, size) for _ in range(n)]
    return n, tuple(pairs_of(row) for row in rows), pairs_of(rights), pairs_of(worth)


def systems(many, seed, **more):
    chance = random.Random(seed)
    return [system_by_chance(chance, **more) for _ in range(many)]


def whole(rows):
    return tuple(pairs_of(row) for row in rows)


class Fractions(unittest.TestCase):
    def test_by_chance(self):
        chance = random.Random(1)
        for _ in range(1000):
            size = chance.choice((1, 3, 20, 10 ** 9 - 1, 10 ** 60))
            x, y = number_by_chance(chance, size), number_by_chance(chance, size)
            one, other = pair_of(x), pair_of(y)
            self.assertTrue(same(added(one, other), pair_of(x + y)))
            self.assertTrue(same(lessened(one, other), pair_of(x - y)))
            self.assertTrue(same(multiplied(one, other), pair_of(x * y)))
            self.assertTrue(same(compared(one, other), (x > y) - (x < y)))
            self.assertEqual(compared(one, one), 0)
            if y:
                self.assertTrue(same(divided(one, other), pair_of(x / y)))

    def test_fraction(self):
        for u, e in product(range(-12, 13), range(-12, 13)):
            if e:
                self.assertTrue(same(fraction(u, e), pair_of(Fraction(u, e))), (u, e))

    def test_summed(self):
        chance = random.Random(2)
        for many in range(8):
            some = tuple(number_by_chance(chance, 30) for _ in range(many))
            self.assertTrue(same(summed(pairs_of(some)), pair_of(sum(some, Fraction(0)))))

    def test_is_fraction(self):
        for u, e in product(range(-6, 7), range(-6, 7)):
            self.assertIs(is_fraction((u, e)), plain_is_fraction((u, e)), (u, e))
        for value in list(ODD_VALUES) + within((3, 2)) + within((0, 1)) + [(3, 2, 1), [3, 2], (True, 2), (3, True), (2, 10 ** 60)]:
            self.assertIs(is_fraction(value), plain_is_fraction(value), value)


class Systems(unittest.TestCase):
    def one_of_both(self, n, rows, rights):
        told = kept_or_barred(n, rows, rights)
        self.assertEqual([type(told), len(told)], [tuple, 2])
        self.assertIn(told[0], ("keeps", "bars"))
        if told[0] == "keeps":
            self.assertIsNone(judge_kept(n, rows, rights, told[1]), (rows, rights, told))
            self.assertIsNone(plain_kept(n, rows, rights, told[1]))
        else:
            self.assertIsNone(judge_barred(n, rows, rights, told[1]), (rows, rights, told))
            self.assertIsNone(plain_barred(n, rows, rights, told[1]))
        return told[0]

    def one_of_three(self, n, rows, rights, worth):
        told = most_of(n, rows, rights, worth)
        self.assertIsNone(judge_most(n, rows, rights, worth, told), (rows, rights, worth, told))
        self.assertIsNone(plain_most(n, rows, rights, worth, told))
        self.assertEqual(told[0] == "bars", self.one_of_both(n, rows, rights) == "bars")
        return told[0]

    def test_small_systems(self):
        words = [self.one_of_three(*system) for system in systems(1500, seed=3)]
        self.assertEqual(set(words), {"bars", "endless", "most"})
        self.assertTrue(all(words.count(word) > 100 for word in set(words)))

    def test_all_systems_of_two_rows_and_small_numbers(self):
        numbers = [pair_of(number) for number in (-1, 0, 1)]
        for a, b, c, d, r, s in product(numbers, repeat=6):
            self.one_of_three(2, ((a, b), (c, d)), (r, s), ((1, 1), (1, 2)))

    def test_without_rows_or_places(self):
        self.assertEqual(kept_or_barred(0, (), ()), ("keeps", ()))
        self.assertEqual(most_of(0, (), (), ()), ("most", (0, 1), (), ()))
        self.assertEqual(most_of(3, (), (), ((0, 1), (-1, 1), (0, 1)))[0], "most")
        self.assertEqual(most_of(3, (), (), ((0, 1), (-1, 1), (1, 9)))[0], "endless")
        self.assertEqual(kept_or_barred(0, ((), ()), ((0, 1), (1, 1))), ("keeps", ()))
        self.assertEqual(self.one_of_both(0, ((), ()), ((0, 1), (-1, 9))), "bars")
        self.assertEqual(most_of(0, ((),), ((5, 1),), ())[:3], ("most", (0, 1), ()))

    def test_rows_of_noughts(self):
        rows = (((0, 1),) * 3,) * 2
        self.assertEqual(self.one_of_three(3, rows, ((0, 1), (1, 2)), ((0, 1), (-1, 1), (-2, 1))), "most")
        self.assertEqual(self.one_of_three(3, rows, ((0, 1), (1, 2)), ((0, 1), (-1, 1), (1, 10 ** 9 - 1))), "endless")
        self.assertEqual(self.one_of_three(3, rows, ((1, 1), (-1, 2)), ((0, 1), (0, 1), (0, 1))), "bars")

    def test_worths_and_amounts(self):
        rows, rights = whole([[1, 2], [3, 1]]), pairs_of([4, 6])
        self.assertEqual(most_of(2, rows, rights, pairs_of([1, 1])),
                         ("most", (14, 5), ((8, 5), (6, 5)), ((2, 5), (1, 5))))
        self.assertEqual(most_of(2, rows, rights, pairs_of([0, 0]))[1], (0, 1))
        self.assertEqual(most_of(2, rows, rights, pairs_of([-1, -1]))[1:3], ((0, 1), ((0, 1), (0, 1))))
        self.assertEqual(most_of(2, whole([[-1, -1]]), pairs_of([-3]), pairs_of([-2, -1]))[:3],
                         ("most", (-3, 1), ((0, 1), (3, 1))))

    def test_equal_sides(self):
        rows, rights = whole([[1, 1, 1], [-1, -1, -1], [1, -1, 0], [-1, 1, 0]]), pairs_of([1, -1, 0, 0])
        self.assertEqual(most_of(3, rows, rights, pairs_of([1, 0, 0]))[1:3], ((1, 2), ((1, 2), (1, 2), (0, 1))))
        self.assertEqual(self.one_of_three(3, rows + (pairs_of([0, 0, 1]), pairs_of([-2, 0, 0])),
                                           rights + pairs_of([0, Fraction(-10, 9)]), pairs_of([1, 1, 1])), "bars")

    def test_where_careless_rules_go_round_for_ever(self):
        beale = whole([[Fraction(1, 4), -60, Fraction(-1, 25), 9], [Fraction(1, 2), -90, Fraction(-1, 50), 3], [0, 0, 1, 0]])
        self.assertEqual(most_of(4, beale, pairs_of([0, 0, 1]), pairs_of([Fraction(3, 4), -150, Fraction(1, 50), -6]))[1],
                         (1, 20))
        hoffman = whole([[-2, -9, 1, 9], [Fraction(1, 3), 1, Fraction(-1, 3), -2]])
        self.assertEqual(self.one_of_three(4, hoffman, pairs_of([0, 0]), pairs_of([2, 3, -1, -12])), "endless")
        self.assertEqual(self.one_of_three(4, hoffman + whole([[2, 3, -1, -12]]), pairs_of([0, 0, 2]),
                                           pairs_of([2, 3, -1, -12])), "most")
        chance = random.Random(5)
        for _ in range(150):
            n, m = chance.randint(3, 7), chance.randint(3, 7)
            rows = whole([[chance.choice((-1, 0, 1)) for _ in range(n)] for _ in range(m)] + [[1] * n])
            for last in (0, 1):
                self.one_of_three(n, rows, pairs_of([0] * m + [last]), pairs_of([chance.randint(-1, 2) for _ in range(n)]))

    def test_towers(self):
        for n in range(1, 9):
            rows = whole([[2 ** (i - j + 1) if j < i else int(i == j) for j in range(n)] for i in range(n)])
            told = most_of(n, rows, pairs_of([5 ** (i + 1) for i in range(n)]), pairs_of([2 ** (n - 1 - j) for j in range(n)]))
            self.assertEqual(told[1], (5 ** n, 1))

    def test_thirty_rows_and_places(self):
        chance = random.Random(6)
        for size, below in ((3, 1), (10 ** 9 - 1, 1), (30, 30)):
            for lowest in (-size, 0, 1):
                rows = whole([[Fraction(chance.randint(-size, size), chance.randint(1, below)) for _ in range(30)]
                              for _ in range(30)])
                rights = pairs_of([Fraction(chance.randint(lowest, size), chance.randint(1, below)) for _ in range(30)])
                self.one_of_three(30, rows, rights, pairs_of([chance.randint(-size, size) for _ in range(30)]))

    def test_nine_figures_above_and_below(self):
        chance = random.Random(7)
        for n in (1, 2, 4, 8):
            for _ in range(5):
                rows = whole([[number_by_chance(chance, 10 ** 9 - 1) for _ in range(n)] for _ in range(n)])
                rights = pairs_of([number_by_chance(chance, 10 ** 9 - 1) for _ in range(n)])
                self.one_of_three(n, rows, rights, pairs_of([number_by_chance(chance, 10 ** 9 - 1) for _ in range(n)]))

    def test_arguments_stay(self):
        for system in systems(50, seed=8):
            before = repr(system)
            self.assertEqual(most_of(*system), most_of(*system))
            self.assertEqual(kept_or_barred(*system[:3]), kept_or_barred(*system[:3]))
            self.assertEqual(repr(system), before)


class Judged(unittest.TestCase):
    ROWS, RIGHTS, WORTH = whole([[1, 1], [1, 0]]), pairs_of([3, 2]), pairs_of([2, 1])

    def test_kept(self):
        for value, fault in ((((2, 1), (1, 1)), None), (((0, 1), (0, 1)), None), (((2, 1), (2, 1)), ("row", 0)),
                             (((5, 2), (0, 1)), ("row", 1)), (((5, 1), (0, 1)), ("row", 0)), (((-1, 2), (-1, 1)), ("below", 0)),
                             (((9, 1), (-1, 9)), ("below", 1)), (((2, 4), (1, 1)), ("form",)), (((2, 1),), ("form",)),
                             (((2, 1), (1, 1), (0, 1)), ("form",)), ([(2, 1), (1, 1)], ("form",)), (((2, 1), [1, 1]), ("form",)),
                             (((-1, 1), (1, True)), ("form",)), ((2, 1), ("form",)), (None, ("form",))):
            self.assertEqual(judge_kept(2, self.ROWS, self.RIGHTS, value), fault, value)

    def test_barred(self):
        rows, rights = whole([[1, 1], [-2, -1]]), pairs_of([1, -3])
        for value, fault in ((((2, 1), (1, 1)), None), (((5, 2), (1, 1)), None), (((3, 1), (1, 1)), ("right",)),
                             (((0, 1), (0, 1)), ("right",)), (((3, 2), (1, 1)), ("place", 0)), (((0, 1), (1, 1)), ("place", 0)),
                             (((-1, 1), (0, 1)), ("below", 0)), (((0, 1), (-1, 1)), ("below", 1)), (((2, 1),), ("form",)),
                             ([(2, 1), (1, 1)], ("form",)), (((2, 1), (1, 1), (0, 1)), ("form",)), (((2, 2), (1, 1)), ("form",)),
                             (None, ("form",))):
            self.assertEqual(judge_barred(2, rows, rights, value), fault, value)
        self.assertEqual(judge_barred(2, whole([[1, -1]]), pairs_of([-1]), ((1, 1),)), ("place", 1))

    def test_most(self):
        right = ("most", (5, 1), ((2, 1), (1, 1)), ((1, 1), (1, 1)))
        for value, fault in ((right, None), (right[:3], ("form",)), (right + ((),), ("form",)), (list(right), ("form",)),
                             (("Most",) + right[1:], ("form",)), (("most", 5) + right[2:], ("form",)),
                             (("most", (10, 2)) + right[2:], ("form",)), ((), ("form",)), (("most",), ("form",)),
                             (("endless",) + right[1:], ("form",)), (("bars", right[2], right[3]), ("form",)),
                             (("endless", right[2]), ("form",)), (("keeps", right[2]), ("form",)),
                             (("most", (5, 1), ((3, 1), (0, 1)), right[3]), ("kept", ("row", 1))),
                             (("most", (9, 1), ((3, 1), (-1, 1)), None), ("kept", ("below", 1))),
                             (("most", (5, 1), None, None), ("kept", ("form",))),
                             (("most", (4, 1), right[2], None), ("amount",)),
                             (("most", (4, 1), ((2, 1), (0, 1)), right[3]), ("rates",)),
                             (right[:3] + (((2, 1), (0, 1)),), ("rates",)), (right[:3] + (((1, 1),),), ("rates",)),
                             (right[:3] + (((3, 1), (-2, 1)),), ("rates",)), (right[:3] + ([(1, 1), (1, 1)],), ("rates",)),
                             (right[:3] + (((1, 3), (2, 1)),), ("rates",)), (right[:3] + (None,), ("rates",)),
                             (("endless", right[2], ((1, 1), (0, 1))), ("way",)), (("endless", right[2], None), ("way",)),
                             (("endless", None, None), ("kept", ("form",))), (("bars", None), ("barred", ("form",))),
                             (("bars", ((1, 1), (0, 1))), ("barred", ("right",)))):
            self.assertEqual(judge_most(2, self.ROWS, self.RIGHTS, self.WORTH, value), fault, value)

    def test_ways(self):
        rows, rights, worth = whole([[1, -1]]), pairs_of([1]), pairs_of([2, -1])
        kept = ((0, 1), (0, 1))
        for way, fault in ((((1, 1), (1, 1)), None), (((3, 2), (5, 2)), None), (((1, 1), (2, 1)), ("way",)),
                           (((0, 1), (0, 1)), ("way",)), (((1, 1), (0, 1)), ("way",)), (((0, 1), (-1, 1)), ("way",)),
                           (((1, 1),), ("way",)), ([(1, 1), (1, 1)], ("way",)), (((2, 2), (1, 1)), ("way",))):
            self.assertEqual(judge_most(2, rows, rights, worth, ("endless", kept, way)), fault, way)
        # Without rows a way may fail by its own numbers alone.
        self.assertEqual(judge_most(2, (), (), pairs_of([1, -1]), ("endless", kept, ((1, 1), (-1, 1)))), ("way",))
        self.assertIsNone(judge_most(2, (), (), pairs_of([1, -1]), ("endless", kept, ((1, 1), (0, 1)))))

    def test_rates_below_0(self):
        # These rates would show too little a worth to be the greatest.
        rows, rights = whole([[1], [-1]]), pairs_of([2, 0])
        self.assertEqual(judge_most(1, rows, rights, ((-1, 1),), ("most", (0, 1), ((0, 1),), ((0, 1), (1, 1)))), None)
        self.assertEqual(judge_most(1, rows, rights, ((1, 1),), ("most", (0, 1), ((0, 1),), ((0, 1), (-1, 1)))), ("rates",))
        self.assertEqual(judge_most(1, rows, pairs_of([0, 0]), ((0, 1),), ("most", (0, 1), ((0, 1),), ((-1, 1), (-1, 1)))),
                         ("rates",))

    def test_answers_with_one_thing_changed(self):
        for n, rows, rights, worth in systems(60, seed=9, most_rows=3, most_places=3):
            told = most_of(n, rows, rights, worth)
            for value in within(told):
                self.assertTrue(same(judge_most(n, rows, rights, worth, value), plain_most(n, rows, rights, worth, value)), value)
            which = kept_or_barred(n, rows, rights)
            judge, plain = (judge_kept, plain_kept) if which[0] == "keeps" else (judge_barred, plain_barred)
            for value in within(which[1]):
                self.assertTrue(same(judge(n, rows, rights, value), plain(n, rows, rights, value)), value)

    def test_any_value(self):
        for n, rows, rights, worth in systems(12, seed=10, most_rows=3, most_places=3) + [(0, (), (), ())]:
            for odd in ODD_VALUES:
                self.assertTrue(same(judge_kept(n, rows, rights, odd), plain_kept(n, rows, rights, odd)), odd)
                self.assertTrue(same(judge_barred(n, rows, rights, odd), plain_barred(n, rows, rights, odd)), odd)
                for value in (odd, ("bars", odd), ("endless", odd, odd), ("most", odd, odd, odd), ("most", (0, 1), odd, odd),
                              ("most", (0, 1), ((0, 1),) * n, odd), ("endless", ((0, 1),) * n, odd), (odd, odd)):
                    self.assertTrue(same(judge_most(n, rows, rights, worth, value), plain_most(n, rows, rights, worth, value)),
                                    value)


if __name__ == "__main__":
    unittest.main()
