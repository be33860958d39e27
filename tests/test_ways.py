import itertools
import unittest

import samples
from fewcounters.errors import NoLoose, NoWay, NoWeb
from fewcounters.ways import is_loose, number_of, steps, way_of, ways, worths

ASKED_OF_LOOSE = [
    ("ways", ways, ()),
    ("worths", worths, ()),
    ("steps", steps, ()),
    ("number_of", number_of, ([0],)),
    ("number_of of what is no way", number_of, ([-1],)),
    ("number_of of none", number_of, ([],)),
    ("way_of", way_of, (0,)),
    ("way_of of what is no number", way_of, (-1,)),
    ("way_of of a great number", way_of, (10 ** 29,)),
]


def plain_is_loose(web, part):
    """Whether nothing is left where again and again those places are let go from which no row leads to one left."""
    left = list(range(web[0][part]))
    for again in range(web[0][part]):
        left = [place for place in left if any(row[:2] == (part, place) and row[2] in left for row in web[1])]
    return left == []


def loose_parts(webs):
    """(web, part, its ways by their numbers) of all loose parts of the webs."""
    return [(web, part, samples.plain_ways(web, part)) for web in webs for part in range(len(web[0]))
            if plain_is_loose(web, part)]


def small_parts():
    return loose_parts(samples.WOVEN + [samples.loose_web(seed) for seed in range(60)])


def doubled_line(places, alike):
    """A loose web of one part: a line of so many places, from each to the next so many rows."""
    order = [0] + list(range(2, places)) + [1]
    return ([places], [(0, a, b, -1) for a, b in zip(order, order[1:]) for again in range(alike)])


class NoWebs(unittest.TestCase):
    def test_ahead_of_all_else(self):
        for what, web in samples.no_webs():
            for part in (0, -1, 7, 10 ** 29):
                with self.subTest(what):
                    with self.assertRaises(NoWeb):
                        is_loose(web, part)
                    for name, function, more in ASKED_OF_LOOSE:
                        with self.assertRaises(NoWeb):
                            function(web, part, *more)

    def test_ahead_of_a_part_that_is_not_loose(self):
        web = ([2, 2], [(0, 0, 1, -1), (0, 0, 0, -1), (1, 0, 1, -1)])
        with self.assertRaises(NoWeb):
            is_loose(web, 0)
        for name, function, more in ASKED_OF_LOOSE:
            with self.subTest(name):
                with self.assertRaises(NoWeb):
                    function(web, 0, *more)


class NoParts(unittest.TestCase):
    def test_parts_that_are_not_there(self):
        for web in samples.WOVEN:
            for part in samples.no_parts(web):
                with self.assertRaises(NoWay):
                    is_loose(web, part)
                for name, function, more in ASKED_OF_LOOSE:
                    with self.subTest(name):
                        with self.assertRaises(NoWay):
                            function(web, part, *more)

    def test_truths_are_no_parts(self):
        for part in (True, False):
            with self.assertRaises(NoWay):
                is_loose(samples.DEEP, part)
            for name, function, more in ASKED_OF_LOOSE:
                with self.subTest(name):
                    with self.assertRaises(NoWay):
                        function(samples.DEEP, part, *more)


class IsLoose(unittest.TestCase):
    def test_by_hand(self):
        self.assertIs(is_loose(samples.LINE, 0), True)
        self.assertIs(is_loose(samples.FORKS, 0), True)
        self.assertIs(is_loose(samples.LOOPS, 0), False)
        self.assertIs(is_loose(samples.ROUND_APART, 0), False)
        self.assertEqual([is_loose(samples.MIXED, part) for part in range(3)], [False, True, False])
        self.assertEqual([is_loose(samples.DEEP, part) for part in range(4)], [True, True, True, False])

    def test_a_row_back_to_its_own_place(self):
        for size, place in ((2, 0), (3, 0), (3, 2), (16, 9)):
            web = samples.line_web(size, size - 1)
            self.assertIs(is_loose(web, 0), True)
            web[1].append((0, place, place, -1))
            self.assertIs(is_loose(web, 0), False)

    def test_one_row_back_by_more_and_more_rows(self):
        line = samples.line_web(16, 15)
        for first, last in itertools.product(range(15), repeat=2):
            row = (0, line[1][last][1], line[1][first][1], -1)
            self.assertIs(is_loose((line[0], line[1] + [row]), 0), last < first)
            self.assertIs(is_loose((line[0], [row] + line[1]), 0), last < first)

    def test_a_round_of_another_part_or_by_calls_is_none_of_this_one(self):
        self.assertEqual([is_loose(samples.CALLED_ROUND, part) for part in (0, 1)], [True, False])
        # Place 2 of part 0 leads to its end, and place 2 of part 1 back to place 0 there.
        web = ([3, 3], [(0, 0, 2, 1), (0, 2, 1, 1), (1, 0, 2, -1), (1, 2, 0, -1), (1, 2, 1, -1)])
        self.assertEqual([is_loose(web, part) for part in (0, 1)], [True, False])

    def test_all_places_left_by_rows_that_lead_on(self):
        webs = samples.WOVEN + [samples.drawn_web(seed) for seed in range(150)]
        webs += [samples.loose_web(seed) for seed in range(50)]
        told = [is_loose(web, part) for web in webs for part in range(len(web[0]))]
        self.assertEqual(told, [plain_is_loose(web, part) for web in webs for part in range(len(web[0]))])
        self.assertGreater(told.count(True), 100)
        self.assertGreater(told.count(False), 100)


class NotLoose(unittest.TestCase):
    def test_refused_ahead_of_what_is_no_way(self):
        for web in samples.WOVEN + [samples.drawn_web(seed) for seed in range(20)]:
            for part in range(len(web[0])):
                if not plain_is_loose(web, part):
                    for name, function, more in ASKED_OF_LOOSE:
                        with self.subTest(name):
                            with self.assertRaises(NoLoose):
                                function(web, part, *more)

    def test_a_way_of_a_part_that_is_not_loose(self):
        with self.assertRaises(NoLoose):
            number_of(samples.LOOPS, 0, [0, 4])
        with self.assertRaises(NoLoose):
            number_of(samples.ROUND_APART, 0, [0])


class Ways(unittest.TestCase):
    def test_by_hand(self):
        self.assertEqual(ways(samples.LINE, 0), 1)
        self.assertEqual(ways(samples.FORKS, 0), 5)
        self.assertEqual(ways(samples.MIXED, 1), 3)
        self.assertEqual(ways(samples.DIVIDED, 0), 2)
        self.assertEqual(ways(samples.line_web(2, 30), 0), 30)

    def test_all_ways_of_small_parts(self):
        for web, part, known in small_parts():
            self.assertEqual(ways(web, part), len(known))

    def test_many_ways(self):
        self.assertEqual(ways(doubled_line(16, 2), 0), 2 ** 15)
        self.assertEqual(ways(doubled_line(11, 3), 0), 3 ** 10)
        self.assertEqual(ways(doubled_line(16, 4), 0), 4 ** 15)


class Worths(unittest.TestCase):
    def test_by_hand(self):
        self.assertEqual(worths(samples.LINE, 0), [0])
        self.assertEqual(worths(samples.FORKS, 0), [0, 0, 1, 0, 1, 2, 4])
        self.assertEqual(worths(samples.MIXED, 1), [0, 0, 0, 0, 0, 1, 0, 0, 0, 0, 2, 0])
        self.assertEqual(worths(samples.line_web(2, 30), 0), list(range(30)))
        self.assertEqual(worths(doubled_line(4, 3), 0), [0, 9, 18, 0, 3, 6, 0, 1, 2])

    def test_the_ways_by_lesser_rows_from_the_same_place(self):
        for web, part, known in small_parts():
            told = worths(web, part)
            for number, row in enumerate(web[1]):
                lesser = [other[2] for other in web[1][:number] if other[:2] == row[:2] and row[0] == part]
                self.assertEqual(told[number], sum(len(samples.plain_ways(web, part, to)) for to in lesser))
            self.assertEqual(len(told), len(web[1]))
            self.assertTrue(samples.is_plain(told))

    def test_rows_of_other_parts_are_worth_0(self):
        for web, part, known in small_parts():
            for function in (worths, steps):
                told = function(web, part)
                self.assertEqual({told[k] for k, row in enumerate(web[1]) if row[0] != part} | {0}, {0})


class Steps(unittest.TestCase):
    def check(self, web, part, known):
        told = steps(web, part)
        self.assertTrue(samples.is_plain(told))
        self.assertEqual(len(told), len(web[1]))
        for number, way in known:
            self.assertEqual(sum(told[row] for row in way), number)
        own = [number for number, row in enumerate(web[1]) if row[0] == part]
        self.assertLessEqual(sum(1 for row in own if told[row] != 0), len(own) - web[0][part] + 2)

    def test_small_parts(self):
        for web, part, known in small_parts():
            self.check(web, part, list(enumerate(known)))

    def test_many_ways(self):
        for web in (doubled_line(16, 2), doubled_line(11, 3), doubled_line(16, 4)):
            count = ways(web, 0)
            asked = [0, 1, 2, count // 3, count // 2, count - 2, count - 1]
            self.check(web, 0, [(number, way_of(web, 0, number)) for number in asked])


class Numbers(unittest.TestCase):
    def test_by_hand(self):
        self.assertEqual([way_of(samples.FORKS, 0, number) for number in range(5)],
                         [[1, 3], [2, 0], [2, 4, 3], [2, 5], [6, 3]])
        self.assertEqual(number_of(samples.FORKS, 0, [2, 4, 3]), 2)
        self.assertEqual(number_of(samples.LINE, 0, [0]), 0)
        self.assertEqual([way_of(samples.MIXED, 1, number) for number in range(3)], [[0, 3, 7], [0, 5, 7], [10]])

    def test_the_ways_of_small_parts_have_just_the_numbers(self):
        for web, part, known in small_parts():
            told = [number_of(web, part, way) for way in known]
            self.assertTrue(samples.is_plain(told))
            self.assertEqual(sorted(told), list(range(len(known))))
            self.assertEqual(told, [sum(worths(web, part)[row] for row in way) for way in known])
            back = [way_of(web, part, number) for number in told]
            self.assertEqual(back, known)
            self.assertTrue(all(samples.is_plain(way) for way in back))

    def test_many_ways(self):
        for web, alike in ((doubled_line(16, 2), 2), (doubled_line(11, 3), 3), (doubled_line(16, 4), 4)):
            count = ways(web, 0)
            for number in list(range(20)) + [count // 3, count // 2, count // 2 - 1] + list(range(count - 20, count)):
                figures = []
                rest = number
                for place in range(web[0][0] - 2, -1, -1):
                    figures.append(alike * place + rest % alike)
                    rest //= alike
                self.assertEqual(way_of(web, 0, number), figures[::-1])
                self.assertEqual(number_of(web, 0, figures[::-1]), number)

    def test_what_is_no_way(self):
        for web, part, known in loose_parts(samples.WOVEN):
            for way in known:
                for near in samples.near_lists(web, way):
                    if samples.is_plain(near) and near in known:
                        self.assertEqual(number_of(web, part, near), known.index(near))
                    else:
                        with self.assertRaises(NoWay):
                            number_of(web, part, near)

    def test_a_way_of_another_part(self):
        for part, way in ((0, [1]), (1, [0]), (2, [1]), (2, [3])):
            with self.assertRaises(NoWay):
                number_of(samples.DEEP, part, way)
        # Rows that lead on from place to place, but one of them in another part.
        web = ([3, 3], [(0, 0, 2, 1), (0, 2, 1, -1), (1, 0, 2, -1), (1, 2, 1, -1)])
        self.assertEqual([number_of(web, 0, [0, 1]), number_of(web, 1, [2, 3])], [0, 0])
        for part, way in itertools.product((0, 1), ([0, 3], [2, 1])):
            with self.assertRaises(NoWay):
                number_of(web, part, way)

    def test_what_is_no_number_of_a_way(self):
        for web, part, known in small_parts():
            for number in samples.no_numbers(len(known)):
                with self.assertRaises(NoWay):
                    way_of(web, part, number)
        for number in (None, True, False, "0", [0], 0.0):
            with self.assertRaises(NoWay):
                way_of(samples.FORKS, 0, number)


class Kept(unittest.TestCase):
    def test_nothing_handed_in_is_changed_and_all_told_is_new(self):
        for web, part in ((samples.FORKS, 0), (samples.MIXED, 1), (samples.LINE, 0)):
            samples.check_kept(self, is_loose, (list(web[0]), list(web[1])), part)
            for function in (ways, worths, steps):
                samples.check_kept(self, function, (list(web[0]), list(web[1])), part)
            for number, way in enumerate(samples.plain_ways(web, part)):
                samples.check_kept(self, number_of, (list(web[0]), list(web[1])), part, list(way))
                samples.check_kept(self, way_of, (list(web[0]), list(web[1])), part, number)

    def test_refusals_change_nothing(self):
        web = (list(samples.LOOPS[0]), list(samples.LOOPS[1]))
        way = [0, 4]
        with self.assertRaises(NoLoose):
            number_of(web, 0, way)
        self.assertEqual((web, way), (samples.LOOPS, [0, 4]))
        web = (list(samples.FORKS[0]), list(samples.FORKS[1]))
        with self.assertRaises(NoWay):
            number_of(web, 0, way)
        self.assertEqual((web, way), (samples.FORKS, [0, 4]))

    def test_arguments(self):
        web = samples.FORKS
        self.assertIs(is_loose(web=web, part=0), True)
        self.assertEqual(ways(web=web, part=0), 5)
        self.assertEqual(worths(web=web, part=0), [0, 0, 1, 0, 1, 2, 4])
        self.assertEqual(len(steps(web=web, part=0)), 7)
        self.assertEqual(number_of(web=web, part=0, way=[6, 3]), 4)
        self.assertEqual(way_of(web=web, part=0, number=4), [6, 3])


if __name__ == "__main__":
    unittest.main()
