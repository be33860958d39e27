import random
import unittest

import samples
from fewcounters.errors import NoRun, NoWay, NoWeb
from fewcounters.stretching import counts_by, cuts, stretch_web, stretches
from fewcounters.ways import is_loose, number_of, way_of, ways
from fewcounters.webs import is_run, is_web

ASKED = [
    ("cuts", cuts, ()),
    ("stretch_web", stretch_web, ()),
    ("stretches", stretches, ([0],)),
    ("stretches of what is no run", stretches, ([-1],)),
    ("stretches of none", stretches, ([],)),
    ("counts_by", counts_by, ([0],)),
    ("counts_by of none", counts_by, ([],)),
    ("counts_by of what is no number", counts_by, ([-1],)),
]


def parts_of_webs(webs):
    return [(web, part) for web in webs for part in range(len(web[0]))]


def drawn_webs(count):
    found = [samples.drawn_web(seed) for seed in range(count)]
    return found + [samples.calling_web(seed) for seed in range(count // 3)]


def plain_stretches(web, part, own):
    """The stretches of an own run as ways of the stretch web, split at the cuts."""
    kept, starts, ends, rows = samples.plain_stretch_rows(web, part)
    places = [place for place, number in enumerate(own) if number in ends]
    told = []
    for first, last in zip([None] + places, places + [None]):
        way = [starts[own[first]]] if first is not None and own[first] in starts else []
        way += [kept[number] for number in own[0 if first is None else first + 1:last]]
        told.append(way + ([ends[own[last]]] if last is not None else []))
    return told


def wide_webs():
    """Webs of thirty-one to sixty rows; many of their stretch webs have more than sixty, so are no webs."""
    found = [([3], [(0, 0, 2, -1), (0, 2, 1, -1)] + [(0, 2, 2, -1)] * count) for count in (29, 30, 31, 57, 58)]
    found += [([2], [(0, 0, 0, -1)] * 59 + [(0, 0, 1, -1)])]
    for seed in range(24):
        draw = random.Random(seed)
        places, rows = samples.drawn_web(seed)
        count = draw.randint(31, 60) if seed % 4 == 0 else 60
        while len(rows) < count:
            part = draw.randrange(len(places)) if seed % 4 == 0 else 0
            start = draw.choice([place for place in range(places[part]) if place != 1])
            to = draw.choice([start, draw.randrange(places[part])])
            rows.insert(draw.randint(0, len(rows)), (part, start, to, -1))
        found.append((places, rows))
    return found


def plain_row_counts(web, owns):
    return [sum(own.count(number) for own in owns) for number in range(len(web[1]))]


class NoWebs(unittest.TestCase):
    def test_ahead_of_all_else(self):
        for what, web in samples.no_webs():
            for part in (0, -1, 7, 10 ** 29):
                for name, function, more in ASKED:
                    with self.subTest(what + ", " + name):
                        with self.assertRaises(NoWeb):
                            function(web, part, *more)


class NoParts(unittest.TestCase):
    def test_parts_that_are_not_there(self):
        for web in samples.WOVEN:
            for part in samples.no_parts(web) + [True, False]:
                for name, function, more in ASKED:
                    with self.subTest(name):
                        with self.assertRaises(NoWay):
                            function(web, part, *more)


class Cuts(unittest.TestCase):
    def test_loose_parts_have_none(self):
        self.assertEqual(cuts(samples.LINE, 0), [])
        self.assertEqual(cuts(samples.FORKS, 0), [])
        self.assertEqual(cuts(samples.MIXED, 1), [])
        for seed in range(40):
            web = samples.loose_web(seed)
            self.assertEqual([cuts(web, part) for part in range(len(web[0]))], [[]] * len(web[0]))

    def test_to_where_one_stands_and_to_place_0(self):
        self.assertEqual(cuts(samples.LOOPS, 0), [1, 3])
        self.assertEqual(cuts(samples.CALLED_ROUND, 1), [3])
        self.assertEqual([cuts(samples.MIXED, part) for part in range(3)], [[1], [], [6]])
        self.assertEqual(cuts(([2], [(0, 0, 0, -1), (0, 0, 1, -1), (0, 0, 0, -1)]), 0), [0, 2])

    def test_what_is_cut_hangs_on_the_rows_numbers(self):
        # Places 2 and 3 lead to one another: cut is the row from the one that is come to by the other.
        rows = [(0, 2, 3, -1), (0, 3, 2, -1), (0, 2, 1, -1)]
        self.assertEqual(cuts(([4], rows + [(0, 0, 2, -1), (0, 0, 3, -1)]), 0), [1])
        self.assertEqual(cuts(([4], rows + [(0, 0, 3, -1), (0, 0, 2, -1)]), 0), [0])

    def test_places_left_for_good(self):
        # Place 3 is left for good when place 2 is come to, so the row from 2 to 3 is no cut.
        rows = [(0, 0, 3, -1), (0, 0, 2, -1), (0, 3, 1, -1), (0, 2, 3, -1), (0, 2, 1, -1)]
        self.assertEqual(cuts(([4], rows), 0), [])
        # The round of 4 and 5 is left for good; one comes to it again from 2.
        rows = [(0, 0, 4, -1), (0, 0, 2, -1), (0, 4, 5, -1), (0, 5, 4, -1), (0, 5, 1, -1), (0, 2, 5, -1),
                (0, 2, 4, -1), (0, 2, 3, -1), (0, 3, 2, -1)]
        self.assertEqual(cuts(([6], rows), 0), [3, 8])

    def test_all_of_it_together(self):
        self.assertEqual(cuts(samples.ROUNDS, 0), [0, 5, 6, 10, 12])

    def test_told_rising_not_as_they_are_come_to(self):
        # The going comes to row 3 ahead of row 0.
        web = ([4], [(0, 3, 3, -1), (0, 0, 2, -1), (0, 2, 3, -1), (0, 3, 2, -1), (0, 2, 2, -1), (0, 3, 1, -1)])
        self.assertEqual(cuts(web, 0), [0, 3, 4])
        web = ([3], [(0, 0, 0, -1), (0, 2, 2, -1), (0, 0, 2, -1), (0, 2, 0, -1), (0, 2, 1, -1), (0, 0, 0, -1)])
        self.assertEqual(cuts(web, 0), [0, 1, 3, 5])
        web = ([3], [(0, 2, 2, -1), (0, 0, 0, -1), (0, 0, 2, -1), (0, 2, 1, -1)])
        self.assertEqual(cuts(web, 0), [0, 1])

    def test_a_long_way_back(self):
        line = samples.line_web(16, 15)
        order = [row[1] for row in line[1]]
        for first in range(15):
            for last in range(15):
                row = (0, order[last], order[first], -1)
                self.assertEqual(cuts((line[0], line[1] + [row]), 0), [15] if first <= last else [])
                # A row that leads past the line's places is gone by first, yet cuts none.
                self.assertEqual(cuts((line[0], [row] + line[1]), 0), [0] if first <= last else [])

    def test_by_going(self):
        several = 0
        for web, part in parts_of_webs(samples.WOVEN + drawn_webs(150)):
            told = cuts(web, part)
            self.assertEqual(told, samples.plain_cuts(web, part))
            self.assertTrue(samples.is_plain(told))
            several += len(told) > 1
        self.assertGreater(several, 50)


class StretchWeb(unittest.TestCase):
    def test_by_hand(self):
        self.assertEqual(stretch_web(samples.LINE, 0), samples.LINE)
        self.assertEqual(stretch_web(samples.FORKS, 0), samples.FORKS)
        self.assertEqual(stretch_web(samples.LOOPS, 0), ([3], [
            (0, 0, 2, -1), (0, 0, 2, -1), (0, 2, 1, -1), (0, 0, 2, -1), (0, 2, 1, -1), (0, 2, 1, -1)]))
        self.assertEqual(stretch_web(samples.MIXED, 0), ([3], [
            (0, 0, 2, -1), (0, 2, 1, -1), (0, 2, 1, -1), (0, 2, 1, -1)]))
        self.assertEqual(stretch_web(samples.MIXED, 1), ([4], [
            (0, 0, 2, -1), (0, 2, 3, -1), (0, 2, 3, -1), (0, 3, 1, -1), (0, 0, 1, -1)]))
        self.assertEqual(stretch_web(samples.MIXED, 2), ([3], [
            (0, 0, 2, -1), (0, 2, 1, -1), (0, 0, 2, -1), (0, 2, 1, -1)]))
        self.assertEqual(stretch_web(samples.ROUNDS, 0), ([6], [
            (0, 0, 3, -1), (0, 0, 2, -1), (0, 2, 4, -1), (0, 3, 2, -1), (0, 2, 5, -1), (0, 4, 1, -1), (0, 5, 4, -1),
            (0, 3, 4, -1), (0, 0, 2, -1), (0, 5, 1, -1), (0, 0, 3, -1), (0, 4, 1, -1), (0, 4, 1, -1), (0, 0, 2, -1),
            (0, 2, 1, -1), (0, 0, 1, -1)]))

    def test_cuts_at_place_0(self):
        self.assertEqual(stretch_web(samples.CALLED_ROUND, 1), ([2], [(0, 0, 1, -1), (0, 0, 1, -1)]))

    def test_rows_in_the_order_told(self):
        for web, part in parts_of_webs(samples.WOVEN + drawn_webs(150)):
            told = stretch_web(web, part)
            self.assertEqual(told, ([web[0][part]], samples.plain_stretch_rows(web, part)[3]))
            self.assertTrue(is_web(told))
            self.assertIs(is_loose(told, 0), True)
            # What is loose falls into nothing more.
            self.assertEqual(stretch_web(told, 0), told)

    def test_many_rows(self):
        rows = [(0, 0, 2, -1), (0, 2, 1, -1)] + [(0, 2, 2, -1)] * 28
        told = stretch_web(([3], rows), 0)
        self.assertEqual(len(told[1]), 58)
        self.assertTrue(is_web(told))
        self.assertEqual(ways(told, 0), 29 * 29)
        self.assertEqual(stretch_web(told, 0), told)


class Stretches(unittest.TestCase):
    def test_without_cuts(self):
        self.assertEqual(stretches(samples.LINE, 0, [0]), [0])
        self.assertEqual(stretches(samples.FORKS, 0, [2, 4, 3]), [2])
        self.assertEqual(stretches(samples.LOOPS, 0, [0, 4]), [0])
        self.assertEqual(stretches(samples.LOOPS, 0, [2, 4]), [3])

    def test_with_one_and_with_several(self):
        # In the stretch web the rows are worth 0, 3, 0, 6, 1, 2.
        self.assertEqual(stretches(samples.LOOPS, 0, [0, 1, 4]), [1, 6])
        self.assertEqual(stretches(samples.LOOPS, 0, [2, 3, 0, 4]), [5, 0])
        self.assertEqual(stretches(samples.LOOPS, 0, [0, 1, 1, 4]), [1, 7, 6])
        self.assertEqual(stretches(samples.LOOPS, 0, [2, 1, 3, 2, 3, 0, 4]), [4, 8, 5, 0])

    def test_cuts_at_place_0(self):
        web = ([2], [(0, 0, 0, -1), (0, 0, 1, -1)])
        self.assertEqual(stretches(web, 0, [1]), [0])
        self.assertEqual(stretches(web, 0, [0, 0, 0, 1]), [1, 1, 1, 0])

    def test_rows_of_a_called_part(self):
        run = [4, 2, 9, 1, 10, 4, 2, 6, 9, 8, 0, 2, 9, 5, 2, 6, 6, 9, 7]
        self.assertTrue(is_run(samples.MIXED, run))
        owns = [(2, [2, 9]), (1, [10]), (2, [2, 6, 9]), (2, [2, 9]), (2, [2, 6, 6, 9]), (1, [0, 5, 7]),
                (0, [4, 1, 4, 8])]
        self.assertEqual(samples.own_runs_within(samples.MIXED, run), owns)
        self.assertEqual([stretches(samples.MIXED, part, own) for part, own in owns],
                         [[0], [2], [1, 2], [0], [1, 3, 2], [1], [2, 0]])

    def test_each_stretch_is_a_way_of_the_stretch_web(self):
        for web, part in parts_of_webs(samples.WOVEN + drawn_webs(20)):
            inner = stretch_web(web, part)
            owns = list(samples.plain_own_runs(web, part, 6))
            random.Random(len(web[1])).shuffle(owns)
            for own in owns[:12]:
                told = stretches(web, part, own)
                self.assertTrue(samples.is_plain(told))
                self.assertEqual(told, [number_of(inner, 0, way) for way in plain_stretches(web, part, own)])
                self.assertEqual([way_of(inner, 0, number) for number in told], plain_stretches(web, part, own))

    def test_one_more_than_cuts(self):
        for web, part in parts_of_webs(samples.ALL):
            found = samples.plain_cuts(web, part)
            for own in samples.plain_own_runs(web, part, 5):
                self.assertEqual(len(stretches(web, part, own)), 1 + sum(number in found for number in own))

    def test_unlike_own_runs_have_unlike_stretches(self):
        for web, part in parts_of_webs([samples.LOOPS, samples.ROUND_APART, samples.MIXED, samples.NESTED]):
            owns = list(samples.plain_own_runs(web, part, 7))
            self.assertEqual(len({tuple(stretches(web, part, own)) for own in owns}), len(owns))

    def test_a_long_own_run(self):
        own = [0] + [1] * 2000 + [3] + [2] + [1] * 1997 + [4]
        told = stretches(samples.LOOPS, 0, own)
        self.assertEqual(told, [1] + [7] * 1999 + [8] + [4] + [7] * 1996 + [6])
        self.assertEqual(counts_by(samples.LOOPS, 0, told), [1, 3997, 1, 1, 1])

    def test_webs_of_more_than_thirty_rows(self):
        wide = 0
        for web, part in parts_of_webs(wide_webs()):
            self.assertTrue(is_web(web))
            rows = samples.plain_stretch_rows(web, part)[3]
            wide += len(rows) > 60
            draw = random.Random(len(rows))
            for run in [samples.drawn_run(web, draw, most) for most in (0, 3, 9, 30)]:
                for own in [own for inner, own in samples.own_runs_within(web, run) if inner == part]:
                    told = stretches(web, part, own)
                    self.assertEqual(told, [samples.plain_number(rows, way) for way in plain_stretches(web, part, own)])
                    draw.shuffle(told)
                    self.assertEqual(counts_by(web, part, told), plain_row_counts(web, [own]))
            with self.assertRaises(NoRun):
                stretches(web, part, [len(web[1])])
            with self.assertRaises(NoWay):
                counts_by(web, part, [10 ** 70])
        self.assertGreaterEqual(wide, 10)

    def test_what_is_no_own_run(self):
        for web, part in parts_of_webs(samples.WOVEN):
            owns = list(samples.plain_own_runs(web, part, 6))
            for own in owns[:3] + owns[-1:]:
                for near in samples.near_lists(web, own):
                    if samples.is_plain(near) and len(near) <= 6 and near in owns:
                        self.assertEqual(len(stretches(web, part, near)), len(plain_stretches(web, part, near)))
                    elif not samples.is_plain(near) or len(near) <= 6:
                        with self.assertRaises(NoRun):
                            stretches(web, part, near)

    def test_runs_with_the_rows_of_called_parts_are_no_own_runs(self):
        with self.assertRaises(NoRun):
            stretches(samples.CALLED_ROUND, 0, [1, 2])
        with self.assertRaises(NoRun):
            stretches(samples.CALLED_ROUND, 0, [2])
        with self.assertRaises(NoRun):
            stretches(samples.CALLED_ROUND, 1, [1])
        self.assertEqual(stretches(samples.CALLED_ROUND, 0, [1]), [1])
        self.assertEqual(stretches(samples.CALLED_ROUND, 1, [2]), [0])


class CountsBy(unittest.TestCase):
    def test_of_none(self):
        for web, part in parts_of_webs(samples.WOVEN):
            self.assertEqual(counts_by(web, part, []), [0] * len(web[1]))

    def test_by_hand(self):
        self.assertEqual(counts_by(samples.LINE, 0, [0]), [1])
        self.assertEqual(counts_by(samples.LINE, 0, [0] * 7), [7])
        self.assertEqual(counts_by(samples.LOOPS, 0, [1, 6]), [1, 1, 0, 0, 1])
        self.assertEqual(counts_by(samples.LOOPS, 0, [6, 1]), [1, 1, 0, 0, 1])
        self.assertEqual(counts_by(samples.LOOPS, 0, [4, 8, 5, 0]), [1, 1, 2, 2, 1])
        self.assertEqual(counts_by(samples.MIXED, 0, [0, 2]), [0, 1, 0, 0, 2, 0, 0, 0, 1, 0, 0, 0])
        self.assertEqual(counts_by(samples.MIXED, 2, [3, 2, 1]), [0, 0, 1, 0, 0, 0, 2, 0, 0, 1, 0, 0])

    def test_a_cut_from_place_0(self):
        # Row 1 leads from 0 to itself; its stretch is a way of one row.
        web = ([2], [(0, 0, 1, -1), (0, 0, 0, -1)])
        self.assertEqual(counts_by(web, 0, stretches(web, 0, [1, 1, 1, 0])), [1, 3])

    def test_own_runs_in_any_order(self):
        for web, part in parts_of_webs(samples.WOVEN + drawn_webs(45)):
            draw = random.Random(len(web[1]) + part)
            known = list(samples.plain_own_runs(web, part, 5))
            for count in (1, 2, 5):
                owns = [draw.choice(known) for own in range(count)] if known else []
                numbers = [number for own in owns for number in stretches(web, part, own)]
                for again in range(2):
                    told = counts_by(web, part, numbers)
                    self.assertEqual(told, plain_row_counts(web, owns))
                    self.assertTrue(samples.is_plain(told))
                    draw.shuffle(numbers)

    def test_the_rows_of_runs_come_back_part_by_part(self):
        for seed in range(60):
            web = samples.drawn_web(seed) if seed % 2 else samples.calling_web(seed)
            draw = random.Random(seed)
            heap = samples.drawn_heap(web, draw)
            numbers = [[] for part in web[0]]
            for run in heap:
                for part, own in samples.own_runs_within(web, run):
                    numbers[part] += stretches(web, part, own)
            told = [counts_by(web, part, numbers[part]) for part in range(len(web[0]))]
            self.assertEqual([sum(column) for column in zip(*told)], samples.plain_counts(web, heap)[:len(web[1])])
            for part, counted in enumerate(told):
                self.assertEqual([counted[k] for k, row in enumerate(web[1]) if row[0] != part and counted[k]], [])

    def test_what_is_no_number(self):
        for web, part in parts_of_webs(samples.WOVEN):
            count = len(samples.plain_ways(([web[0][part]], samples.plain_stretch_rows(web, part)[3]), 0))
            self.assertEqual(len(counts_by(web, part, [0, count - 1])), len(web[1]))
            for number in samples.no_numbers(count) + [True, False, None, "0", 0.0, [0]]:
                for numbers in ([number], [0, number], [number, count - 1], [0] * 20 + [number] + [0] * 20):
                    with self.assertRaises(NoWay):
                        counts_by(web, part, numbers)


class Kept(unittest.TestCase):
    def test_nothing_handed_in_is_changed_and_all_told_is_new(self):
        for web, part in parts_of_webs([samples.LINE, samples.LOOPS, samples.MIXED, samples.ROUNDS]):
            samples.check_kept(self, cuts, (list(web[0]), list(web[1])), part)
            samples.check_kept(self, stretch_web, (list(web[0]), list(web[1])), part)
            samples.check_kept(self, counts_by, (list(web[0]), list(web[1])), part, [])
            for own in list(samples.plain_own_runs(web, part, 5))[:8]:
                samples.check_kept(self, stretches, (list(web[0]), list(web[1])), part, list(own))
                numbers = stretches(web, part, own)
                samples.check_kept(self, counts_by, (list(web[0]), list(web[1])), part, numbers)

    def test_refusals_change_nothing(self):
        web = (list(samples.LOOPS[0]), list(samples.LOOPS[1]))
        own = [0, 1, 1, 2]
        with self.assertRaises(NoRun):
            stretches(web, 0, own)
        numbers = [0, 8, 9]
        with self.assertRaises(NoWay):
            counts_by(web, 0, numbers)
        self.assertEqual((web, own, numbers), (samples.LOOPS, [0, 1, 1, 2], [0, 8, 9]))

    def test_arguments(self):
        web = samples.LOOPS
        self.assertEqual(cuts(web=web, part=0), [1, 3])
        self.assertEqual(stretch_web(web=web, part=0)[0], [3])
        self.assertEqual(stretches(web=web, part=0, rows=[0, 1, 4]), [1, 6])
        self.assertEqual(counts_by(web=web, part=0, numbers=[1, 6]), [1, 1, 0, 0, 1])


if __name__ == "__main__":
    unittest.main()
