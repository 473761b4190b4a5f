"""[11.4] to [11.6], [11.8]: bands of lines of crossings, one way and both ways."""

import random
import unittest
from itertools import product

from greenheld.bands import (arrivals, back_line, band, band_bound, best_both, both_bands, full_both, full_paper,
                             offsets_of_line, passes)
from tests.support import plain_int, same

LINE, GREENS = ((0, 0), (1, 4), (2, 3)), ((0, 5), (2, 6), (1, 4))


def plain_green(offset, begin, length, L):
    """Of the ticks of one frame's length, from tick 0 on, those that are green: one after another, round and round."""
    lit = [False] * L
    for tick in range(length):
        lit[(offset + begin + tick) % L] = True
    return lit


def plain_band(line, greens, L, offsets):
    rows = [plain_green(offsets[crossing], begin, length, L) for (crossing, _), (begin, length) in zip(line, greens)]
    found = []
    for start in range(L):
        at = start
        is_through = rows[0][at % L]
        for k in range(1, len(line)):
            at += line[k][1]
            is_through = is_through and rows[k][at % L]
        if is_through:
            found.append(start)
    return tuple(found)


def plain_back(line):
    times = [time for _, time in line][1:]
    return tuple(zip([crossing for crossing, _ in line][::-1], [0] + times[::-1]))


def plain_both(line, greens, backs, L, offsets):
    return (len(plain_band(line, greens, L, offsets)), len(plain_band(plain_back(line), backs, L, offsets)))


def tries(m, line, L):
    """All offsets with 0 for the first of the line and for those that it does not pass, ascending."""
    free = {crossing for crossing, _ in line[1:]}
    return list(product(*[range(L) if c in free else (0,) for c in range(m)]))


def line_by_chance(chance, m, many, most=30):
    crossings = chance.sample(range(m), many)
    return tuple((c, 0 if k == 0 else chance.choice((0, chance.randint(0, most)))) for k, c in enumerate(crossings))


def greens_by_chance(chance, many, L, figures=30):
    return tuple((chance.choice((0, chance.randint(-figures, figures))), chance.choice((0, L, *([chance.randint(0, L)] * 6))))
                 for _ in range(many))


def offsets_by_chance(chance, m, L):
    return tuple(chance.randrange(L) for _ in range(m))


def drawn(chance, times, most_crossings=8, most_length=120, most=30):
    """Tuples of m, a line, its greens, its backs and L."""
    found = []
    for _ in range(times):
        m = chance.randint(1, most_crossings)
        many = chance.randint(1, m)
        L = chance.choice((1, 2, chance.randint(1, most_length), most_length))
        found.append((m, line_by_chance(chance, m, many, most), greens_by_chance(chance, many, L, most),
                      greens_by_chance(chance, many, L, most), L))
    return found


class Bands(unittest.TestCase):
    def test_arrivals(self):
        self.assertEqual([arrivals(LINE, 2), arrivals(((5, 0),), 7), arrivals(((1, 0), (0, 0), (2, 1000)), 0)],
                         [(2, 6, 9), (7,), (0, 0, 1000)])
        eight = tuple((c, 0 if c == 7 else 1000) for c in range(7, -1, -1))
        self.assertEqual(arrivals(eight, 10 ** 9), tuple(10 ** 9 + 1000 * k for k in range(8)))

    def test_by_plain_lamps(self):
        chance = random.Random(1)
        sizes = set()
        for m, line, greens, _, L in drawn(chance, 300, most=10 ** 9):
            line = tuple((c, time % 1001) for c, time in line)
            offsets = offsets_by_chance(chance, m, L)
            told = band(line, greens, L, offsets)
            self.assertTrue(same(told, plain_band(line, greens, L, offsets)))
            for start in (0, 1, L, 3 * L + 2, 10 ** 9):
                self.assertIs(passes(line, greens, L, offsets, start), start % L in told)
            sizes.add(min(len(told), 1) + (len(told) == L))
            self.assertEqual(band_bound(greens), sorted(length for _, length in greens)[0])
        self.assertEqual(sizes, {0, 1, 2})

    def test_greens_that_go_on_into_the_next_frame(self):
        one = ((0, 0),)
        self.assertEqual([band(one, ((8, 5),), 10, (0,)), band(one, ((8, 5),), 10, (3,)), band(one, ((-2, 5),), 10, (0,)),
                          band(one, ((0, 0),), 10, (0,)), band(one, ((7, 10),), 10, (2,)), band(one, ((10 ** 9, 1),), 7, (0,)),
                          band(one, ((0, 1),), 1, (0,)), band(one, ((5, 0),), 1, (0,))],
                         [(0, 1, 2, 8, 9), (1, 2, 3, 4, 5), (0, 1, 2, 8, 9), (), tuple(range(10)), (10 ** 9 % 7,), (0,), ()])
        self.assertEqual([passes(one, ((8, 5),), 10, (0,), start) for start in (12, 13, 17, 18)], [True, False, False, True])

    def test_a_line_need_not_pass_all_crossings(self):
        line, greens = ((3, 0), (1, 4)), ((0, 5), (0, 5))
        self.assertEqual([band(line, greens, 10, (7, 4, 9, 0)), band(line, greens, 10, (0, 9, 0, 0)), band(line, greens, 10, (0, 4, 5, 5))],
                         [(0, 1, 2, 3, 4), (), ()])


class GreenWave(unittest.TestCase):
    def test_the_band_is_as_great_as_can_be(self):
        chance = random.Random(2)
        for m, line, greens, _, L in drawn(chance, 300):
            offsets = offsets_of_line(m, line, greens, L)
            self.assertTrue(type(offsets) is tuple and len(offsets) == m and all(plain_int(t) and 0 <= t < L for t in offsets))
            free = [crossing for crossing, _ in line[1:]]
            self.assertTrue(all(offset == 0 for c, offset in enumerate(offsets) if c not in free))
            self.assertEqual(len(plain_band(line, greens, L, offsets)), band_bound(greens))
            # Who leaves with the first green's begin comes to each green's begin.
            for (crossing, _), (begin, _), at in zip(line, greens, arrivals(line, greens[0][0])):
                self.assertEqual((at - offsets[crossing] - begin) % L, 0)
            for _ in range(5):
                self.assertLessEqual(len(band(line, greens, L, offsets_by_chance(chance, m, L))), band_bound(greens))

    def test_no_offsets_have_more_by_all_tries(self):
        chance = random.Random(3)
        for m, line, greens, _, L in drawn(chance, 60, most_crossings=3, most_length=6):
            most = max(len(plain_band(line, greens, L, offsets)) for offsets in product(range(L), repeat=m))
            self.assertEqual([band_bound(greens), len(band(line, greens, L, offsets_of_line(m, line, greens, L)))], [most, most])

    def test_lines_of_one_and_of_eight(self):
        self.assertEqual([offsets_of_line(1, ((0, 0),), ((7, 3),), 10), offsets_of_line(8, ((5, 0),), ((7, 3),), 10),
                          offsets_of_line(4, LINE, GREENS, 10)], [(0,), (0,) * 8, (0, 2, 6, 0)])
        eight = tuple((c, 1000 if c else 0) for c in range(8))
        greens = tuple((-10 ** 9 + c, 100 + c) for c in range(8))
        offsets = offsets_of_line(8, eight, greens, 120)
        self.assertEqual(offsets, tuple(999 * c % 120 for c in range(8)))
        self.assertEqual(len(band(eight, greens, 120, offsets)), 100)


class BothWays(unittest.TestCase):
    def test_back_line(self):
        self.assertEqual([back_line(LINE), back_line(((4, 0),)), back_line(((1, 0), (0, 7)))],
                         [((2, 0), (1, 3), (0, 4)), ((4, 0),), ((0, 0), (1, 7))])
        chance = random.Random(4)
        for m, line, greens, backs, L in drawn(chance, 100):
            self.assertTrue(same(back_line(line), plain_back(line)))
            self.assertEqual(back_line(back_line(line)), line)
            offsets = offsets_by_chance(chance, m, L)
            self.assertTrue(same(both_bands(line, greens, backs, L, offsets), plain_both(line, greens, backs, L, offsets)))

    def test_best_and_full_by_all_offsets(self):
        chance = random.Random(5)
        fulls = []
        narrow = []
        for _ in range(120):
            L = chance.randint(3, 7)
            line = line_by_chance(chance, 3, chance.choice((2, 3, 3)))
            narrow.append((3, line, *[tuple((chance.randint(-9, 9), chance.choice((1, 2, 2, 3, chance.randint(0, L)))) for _ in line)
                                      for _ in range(2)], L))
        for m, line, greens, backs, L in drawn(chance, 60, most_crossings=3, most_length=7) + narrow:
            told = [(-sum(plain_both(line, greens, backs, L, offsets)), offsets) for offsets in tries(m, line, L)]
            self.assertTrue(same(best_both(m, line, greens, backs, L), (-min(told)[0], min(told)[1])))
            full = any(plain_both(line, greens, backs, L, offsets) == (band_bound(greens), band_bound(backs))
                       for offsets in product(range(L), repeat=m))
            self.assertIs(full_both(line, greens, backs, L), full)
            fulls.append(full)
        self.assertGreater(min(fulls.count(True), fulls.count(False)), 20)

    def test_eight_crossings_of_which_the_line_passes_few(self):
        line, greens, backs = ((6, 0), (2, 3), (0, 1)), ((0, 4), (1, 5), (2, 4)), ((3, 3), (0, 3), (1, 3))
        told = [(-sum(plain_both(line, greens, backs, 8, offsets)), offsets) for offsets in tries(8, line, 8)]
        self.assertEqual(best_both(8, line, greens, backs, 8), (-min(told)[0], min(told)[1]))
        self.assertIs(full_both(line, greens, backs, 8), -min(told)[0] == 7)

    def test_four_crossings_and_twelve_ticks(self):
        line = ((0, 0), (1, 3), (2, 3), (3, 3))
        same_greens = ((0, 6),) * 4
        self.assertEqual([full_both(line, same_greens, same_greens, 12), full_both(line, same_greens, same_greens, 6),
                          full_both(line, ((0, 5),) * 4, ((0, 5),) * 4, 12), best_both(4, line, same_greens, same_greens, 6)],
                         [False, True, False, (12, (0, 0, 0, 0))])
        self.assertEqual(best_both(4, line, same_greens, same_greens, 12),
                         max(((sum(plain_both(line, same_greens, same_greens, 12, offsets)), offsets) for offsets in tries(4, line, 12)),
                             key=lambda told: (told[0], [-tick for tick in told[1]])))

    def test_ends(self):
        one = ((0, 0),)
        self.assertEqual([best_both(1, one, ((3, 2),), ((5, 4),), 9), full_both(one, ((3, 2),), ((5, 4),), 9),
                          best_both(3, ((2, 0),), ((0, 0),), ((0, 1),), 1), full_both(((2, 0), (0, 4)), ((0, 1),) * 2, ((0, 0),) * 2, 1)],
                         [(6, (0, 0, 0)[:1]), True, (1, (0, 0, 0)), True])


class Papers(unittest.TestCase):
    def test_just_where_there_are_full_waves(self):
        chance = random.Random(6)
        words = []
        for _ in range(250):
            m, L = chance.randint(2, 4), chance.randint(2, 8)
            many = chance.choice((1, m, m, m))
            line = line_by_chance(chance, m, many, 20)
            g, h = chance.randint(1, L - 1), chance.randint(1, L - 1)
            greens = tuple((chance.randint(-20, 20), g) for _ in line)
            backs = tuple((chance.randint(-20, 20), h) for _ in line)
            if chance.random() < 0.5:
                # Such as let full waves: what is there and back comes to twice the way, but for whole frames.
                ways = arrivals(line, 0)
                backs = tuple((greens[k][0] - 2 * ways[k] + 5 + L * chance.randint(-3, 3), h) for k in range(many))[::-1]
            paper = full_paper(line, greens, backs, L)
            self.assertIs(full_both(line, greens, backs, L), paper is None)
            some = any(plain_both(line, greens, backs, L, offsets) == (g, h) for offsets in tries(m, line, L)) if L < 6 else paper is None
            self.assertIs(paper is None, some)
            if paper is not None:
                k, rest = paper
                told = [(backs[many - 1 - place][0] - greens[place][0] - backs[-1][0] + greens[0][0]
                         + 2 * sum(time for _, time in line[:place + 1])) % L for place in range(many)]
                self.assertTrue(same(paper, (k, told[k])))
                self.assertTrue(rest > 0 and not any(told[:k]))
            words.append(paper is None)
        self.assertGreater(min(words.count(True), words.count(False)), 60)

    def test_differences_below_0_and_nine_figures(self):
        road, greens = ((0, 0), (1, 3), (2, 0)), ((0, 5), (0, 5), (0, 5))
        self.assertEqual([full_paper(road, greens, ((0, 4), (-6, 4), (0, 4)), 10), full_paper(road, greens, ((-6, 4), (-6, 4), (0, 4)), 10),
                          full_paper(road, greens, ((-7, 4), (-6, 4), (0, 4)), 10), full_paper(road, greens, ((4, 4), (-10 ** 9 - 6, 4), (0, 4)), 10),
                          full_paper(((4, 0),), ((3, 1),), ((9, 2),), 7), full_paper(road[:2], greens[:2], ((0, 4), (6, 4)), 10)],
                         [(2, 6), None, (2, 9), None, None, None])
        eight = tuple((c, 0 if c == 0 else 60) for c in range(8))
        self.assertEqual([full_paper(eight, ((0, 30),) * 8, ((7, 20),) * 8, 120), full_paper(eight, ((0, 30),) * 8, ((7, 20),) * 8, 119)],
                         [None, (1, 1)])


if __name__ == "__main__":
    unittest.main()
