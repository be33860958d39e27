import itertools
import random
import unittest

import samples
from fewcounters.errors import NoRun, NoWeb
from fewcounters.webs import is_run, is_web, stood


class IsWeb(unittest.TestCase):
    def test_webs(self):
        for web in samples.ALL:
            with self.subTest(web):
                self.assertIs(is_web(web), True)

    def test_drawn_webs(self):
        for seed in range(60):
            self.assertIs(is_web(samples.drawn_web(seed)), True)

    def test_one_to_four_parts(self):
        for parts in (1, 2, 3, 4):
            rows = [(part, 0, 1, part + 1 if part + 1 < parts else -1) for part in range(parts)]
            self.assertIs(is_web(([2] * parts, rows)), True)

    def test_2_to_16_places(self):
        for places in range(2, 17):
            self.assertIs(is_web(samples.line_web(places, 20)), True)

    def test_sixteen_places_in_each_of_four_parts(self):
        order = [0] + list(range(2, 16)) + [1]
        rows = [(part, order[k], order[k + 1], -1) for part in range(4) for k in range(15)]
        self.assertEqual(len(rows), 60)
        for part in (1, 2, 3):
            rows[part] = rows[part][:3] + (part,)
        self.assertIs(is_web(([16] * 4, rows)), True)

    def test_1_to_60_rows(self):
        for rows in (1, 2, 29, 30, 31, 59, 60):
            self.assertIs(is_web(samples.line_web(2, rows)), True)

    def test_a_row_may_call_each_greater_part(self):
        rows = [(0, 0, 1, 3), (0, 0, 1, 2), (0, 0, 1, 1), (1, 0, 1, -1), (2, 0, 1, -1), (3, 0, 1, -1)]
        self.assertIs(is_web(([2] * 4, rows)), True)

    def test_a_part_is_called_by_any_one_earlier(self):
        rows = [(0, 0, 1, 1), (1, 0, 1, 3), (1, 0, 1, 2), (2, 0, 1, -1), (3, 0, 1, -1)]
        self.assertIs(is_web(([2] * 4, rows)), True)

    def test_rows_of_parts_in_any_order(self):
        self.assertIs(is_web(([2, 2], [(1, 0, 1, -1), (0, 0, 1, 1)])), True)

    def test_a_place_that_only_lies_on_a_way_that_comes_by_a_place_twice(self):
        rows = [(0, 0, 2, -1), (0, 2, 3, -1), (0, 3, 2, -1), (0, 2, 1, -1)]
        self.assertIs(is_web(([4], rows)), True)

    def test_a_round_at_place_0(self):
        self.assertIs(is_web(([3], [(0, 0, 1, -1), (0, 0, 2, -1), (0, 2, 0, -1)])), True)
        self.assertIs(is_web(([2], [(0, 0, 0, -1), (0, 0, 1, -1)])), True)

    def test_no_webs(self):
        for what, web in samples.no_webs():
            with self.subTest(what):
                self.assertIs(is_web(web), False)

    def test_places_that_are_not_there_but_as_many_on_ways_as_there_are_places(self):
        for place in (-1, 3, 10 ** 29):
            for rows in (
                [(0, 0, place, -1), (0, place, 1, -1)],
                [(0, 0, 1, -1), (0, 0, 2, -1), (0, 2, 2, -1), (0, place, 1, -1)],
                [(0, 0, 1, -1), (0, 2, 1, -1), (0, 0, place, -1)],
            ):
                with self.subTest(rows):
                    self.assertIs(is_web(([3], rows)), False)

    def test_truths_are_no_numbers(self):
        self.assertIs(is_web(([2], [(False, 0, 1, -1)])), False)
        self.assertIs(is_web(([2], [(0, 0, True, -1)])), False)
        self.assertIs(is_web(([2, 2], [(0, 0, 1, True), (1, 0, 1, -1)])), False)

    def test_other_forms(self):
        for web in (None, 5, (), ([2],), ([2], [(0, 0, 1, -1)], []), [[2], [(0, 0, 1, -1)]],
                    ((2,), [(0, 0, 1, -1)]), ([2], ((0, 0, 1, -1),)), ([2], [[0, 0, 1, -1]]),
                    ([2], [(0, 0, 1)]), ([2], [(0, 0, 1, -1, -1)]), ([2], [(0, 0, 1, None)]), (["2"], []),
                    (["2"], [(0, 0, 1, -1)]), ([None], [(0, 0, 1, -1)])):
            with self.subTest(web):
                self.assertIs(is_web(web), False)

    def test_rows_beyond_thirty_are_not_refused_elsewhere(self):
        web = samples.line_web(2, 60)
        self.assertIs(is_run(web, [59]), True)
        self.assertEqual(stood(web, [59]), [])


class NoWebs(unittest.TestCase):
    def test_ahead_of_all_else(self):
        for what, web in samples.no_webs():
            for rows in ([], [0], [-1], [99], [0, 0, 0]):
                with self.subTest(what=what, rows=rows):
                    with self.assertRaises(NoWeb):
                        is_run(web, rows)
                    with self.assertRaises(NoWeb):
                        stood(web, rows)


class IsRun(unittest.TestCase):
    def test_one_row(self):
        self.assertIs(is_run(samples.LINE, [0]), True)

    def test_rows_several_times(self):
        self.assertIs(is_run(samples.LOOPS, [0, 1, 1, 1, 3, 2, 3, 0, 1, 4]), True)
        self.assertIs(is_run(samples.LOOPS, [0, 4]), True)
        self.assertIs(is_run(samples.LOOPS, [2, 4]), True)

    def test_calls_within_calls(self):
        self.assertIs(is_run(samples.NESTED, [0, 3, 4, 7, 7, 6, 5, 6, 2, 3, 5, 6]), True)
        self.assertIs(is_run(samples.NESTED, [0, 3, 5, 6, 1, 6, 0, 3, 5, 7, 6, 2, 3, 5, 6]), True)
        self.assertIs(is_run(samples.DEEP, [0, 1, 2, 4, 4, 3]), True)

    def test_a_call_at_the_end_is_gone_through(self):
        self.assertIs(is_run(samples.DEEP, [0]), False)
        self.assertIs(is_run(samples.DEEP, [0, 1, 2]), False)
        self.assertIs(is_run(samples.NESTED, [0, 3, 5, 6, 2]), False)

    def test_beginnings_are_none(self):
        run = [0, 3, 4, 7, 7, 6, 5, 6, 2, 3, 5, 6]
        for length in range(len(run)):
            self.assertIs(is_run(samples.NESTED, run[:length]), False)

    def test_nothing_goes_on_behind_the_end(self):
        self.assertIs(is_run(samples.LINE, [0, 0]), False)
        self.assertIs(is_run(samples.LOOPS, [0, 4, 0, 4]), False)
        self.assertIs(is_run(samples.DEEP, [0, 1, 2, 3, 3]), False)

    def test_lists_that_are_none(self):
        for rows in ([], [1], [0, 0], [0, 2, 4], [4], [0, 3, 4]):
            self.assertIs(is_run(samples.LOOPS, rows), False)

    def test_a_called_part_comes_ahead_of_what_follows(self):
        self.assertIs(is_run(samples.CALLED_ROUND, [1, 3, 2]), True)
        self.assertIs(is_run(samples.CALLED_ROUND, [2, 1]), False)
        self.assertIs(is_run(samples.NESTED, [0, 2, 3, 5, 6, 3, 5, 6]), False)

    def test_numbers_that_are_no_rows(self):
        for rows in ([-1], [1], [0, -1], [-1, 0], [0, 1], [10 ** 29], [-10 ** 29]):
            with self.subTest(rows):
                self.assertIs(is_run(samples.LINE, rows), False)
        self.assertIs(is_run(samples.LOOPS, [0, -1]), False)
        self.assertIs(is_run(samples.LOOPS, [-5, 4]), False)

    def test_truths_are_no_rows(self):
        self.assertIs(is_run(samples.LINE, [False]), False)
        self.assertIs(is_run(samples.LINE, (0,)), False)

    def test_all_short_lists(self):
        for web in samples.SMALL:
            runs = samples.plain_runs(web, 5)
            for length in range(6):
                for rows in itertools.product(range(-1, len(web[1]) + 1), repeat=length):
                    if is_run(web, list(rows)) != (list(rows) in runs):
                        self.fail((web, rows))

    def test_drawn_runs(self):
        for seed in range(60):
            web = samples.drawn_web(seed)
            draw = random.Random(seed)
            run = samples.drawn_run(web, draw, 30)
            self.assertIs(is_run(web, run), True)
            self.assertIs(is_run(web, run[:-1]), False)
            self.assertIs(is_run(web, run + run), False)

    def test_a_long_run(self):
        self.assertIs(is_run(samples.LOOPS, [0] + [1] * 3998 + [4]), True)


class Stood(unittest.TestCase):
    def test_none(self):
        for web in samples.ALL:
            self.assertEqual(stood(web, []), [(0, 0)])

    def test_behind_runs(self):
        self.assertEqual(stood(samples.LINE, [0]), [])
        self.assertEqual(stood(samples.LOOPS, [0, 1, 4]), [])
        self.assertEqual(stood(samples.DEEP, [0, 1, 2, 3]), [])

    def test_each_beginning_of_a_run(self):
        told = [
            [(0, 0)],
            [(0, 2), (1, 0)],
            [(0, 2), (1, 2)],
            [(0, 2), (1, 2), (2, 0)],
            [(0, 2), (1, 2), (2, 0)],
            [(0, 2), (1, 2)],
            [(0, 2), (1, 1), (2, 0)],
            [(0, 2)],
            [(0, 0), (2, 0)],
            [(0, 0)],
            [(0, 2), (1, 0)],
            [(0, 2), (1, 2)],
            [(0, 2), (1, 1), (2, 0)],
            [(0, 2)],
            [(0, 1), (1, 0)],
            [(0, 1), (1, 2)],
            [(0, 1), (1, 1), (2, 0)],
            [],
        ]
        run = [0, 3, 4, 7, 6, 5, 6, 1, 6, 0, 3, 5, 6, 2, 3, 5, 6]
        self.assertEqual([stood(samples.NESTED, run[:length]) for length in range(len(run) + 1)], told)

    def test_at_place_1_while_a_called_part_is_under_way(self):
        told = [stood(samples.DEEP, [0, 1, 2, 4, 3][:length]) for length in range(6)]
        self.assertEqual(told, [
            [(0, 0)],
            [(0, 1), (1, 0)],
            [(0, 1), (1, 1), (2, 0)],
            [(0, 1), (1, 1), (2, 1), (3, 0)],
            [(0, 1), (1, 1), (2, 1), (3, 0)],
            [],
        ])

    def test_kinds(self):
        told = stood(samples.NESTED, [0, 3, 5])
        self.assertIsInstance(told, list)
        for stand in told:
            self.assertIs(type(stand), tuple)

    def test_what_follows_is_what_the_stack_leaves(self):
        for web in samples.SMALL + [samples.NESTED]:
            runs = samples.plain_runs(web, 8)
            begins = {tuple(run[:length]) for run in runs for length in range(len(run) + 1)}
            for begin in begins:
                stack = stood(web, list(begin))
                left = [[]]
                for part, place in reversed(stack):
                    left = [a + b for a in left
                            for b in samples.plain_rest(web, part, place, 8 - len(begin) - len(a))]
                follows = [run[len(begin):] for run in runs if tuple(run[:len(begin)]) == begin]
                self.assertEqual(sorted(left), sorted(follows))
                self.assertFalse(stack and stack[-1][1] == 1)

    def test_lists_that_begin_no_run(self):
        cases = [
            (samples.LINE, [1]), (samples.LINE, [-1]), (samples.LINE, [0, 0]), (samples.LINE, [0, -1]),
            (samples.LINE, [10 ** 29]), (samples.LOOPS, [4]), (samples.LOOPS, [0, 0]), (samples.LOOPS, [0, -1]),
            (samples.LOOPS, [0, 5]), (samples.LOOPS, [-5]), (samples.NESTED, [0, 2]), (samples.NESTED, [3]),
            (samples.NESTED, [0, 3, 5, 3]), (samples.DEEP, [0, 1, 2, 3, 0]),
        ]
        for web, rows in cases:
            with self.subTest(web=web, rows=rows):
                with self.assertRaises(NoRun):
                    stood(web, rows)

    def test_all_short_lists(self):
        for web in samples.SMALL:
            # From each place of these webs the end is at most eight rows away.
            begins = {tuple(run[:4]) for run in samples.plain_runs(web, 12)}
            begins = {begin[:length] for begin in begins for length in range(5)}
            for length in range(5):
                for rows in itertools.product(range(-1, len(web[1]) + 1), repeat=length):
                    try:
                        stood(web, list(rows))
                        told = True
                    except NoRun:
                        told = False
                    if told != (rows in begins):
                        self.fail((web, rows))


class Kept(unittest.TestCase):
    def test_nothing_handed_in_is_changed_and_all_told_is_new(self):
        nested = [0, 3, 4, 7, 6, 5, 6]
        for function, rows in ((is_run, nested), (stood, nested), (stood, nested[:6]), (stood, []), (is_run, [])):
            web = ([3, 3, 2], list(samples.NESTED[1]))
            samples.check_kept(self, function, web, list(rows))

    def test_is_web_changes_nothing(self):
        for web in [([3, 3, 2], list(samples.NESTED[1])), ([3], [(0, 0, 1, -1)])]:
            samples.check_kept(self, is_web, web)

    def test_a_web_that_is_changed_behind_is_looked_at_anew(self):
        web = ([2], [(0, 0, 1, -1)])
        self.assertIs(is_web(web), True)
        self.assertIs(is_run(web, [0, 1]), False)
        web[1][0] = (0, 0, 2, -1)
        web[1].append((0, 2, 1, -1))
        self.assertIs(is_web(web), False)
        web[0][0] = 3
        self.assertIs(is_web(web), True)
        self.assertIs(is_run(web, [0, 1]), True)


if __name__ == "__main__":
    unittest.main()
