import copy
import itertools
import random
import unittest

import samples
from fewcounters.errors import NoMarks, NoWeb
from fewcounters.finder import plan_for
from fewcounters.heaps import relations
from fewcounters.readings import read_back, stopped
from fewcounters.webs import stood


def all_stops(web):
    """A stop at each place of each part."""
    return [(part, place) for part, size in enumerate(web[0]) for place in range(size)]


def plain_stopped(web, stops):
    told = []
    for part, size in enumerate(web[0]):
        for place in range(size):
            if place == 1:
                told.append(-sum(1 for stop in stops if stop[0] == part and stop[1] != 1))
            else:
                told.append(sum(1 for stop in stops if stop == (part, place)))
    return told + [0] * (len(web[0]) - 1)


def drawn_broken(web, draw, most):
    """Beginnings of runs, none whole, and the stops of them all."""
    broken = []
    stops = []
    for begin in range(draw.randint(0, most)):
        run = samples.drawn_run(web, draw, draw.randint(0, 12))
        run = run[:draw.randrange(len(run))]
        broken.append(run)
        stops += stood(web, run)
    draw.shuffle(stops)
    return broken, stops


def marks_of(plan, numbers):
    return [numbers[row] for row in plan[0]]


class NoWebs(unittest.TestCase):
    def test_ahead_of_all_else(self):
        plan = ([0], [(1, [1], [1, 0])], [([[0]], [])], None)
        for what, web in samples.no_webs():
            for stops in ([], [(0, 0)], [(9, 9)]):
                with self.subTest(what):
                    with self.assertRaises(NoWeb):
                        stopped(web, stops)
                    for marks in ([], [1], [-1], [1, 1]):
                        with self.assertRaises(NoWeb):
                            read_back(web, plan, marks, stops)


class Stopped(unittest.TestCase):
    def test_none(self):
        for web in samples.CHOSEN_FROM:
            self.assertEqual(stopped(web, []), [0] * (sum(web[0]) + len(web[0]) - 1))

    def test_one_at_each_place(self):
        told = {
            (0, 0): [1, -1, 0, 0, 0, 0, 0, 0, 0, 0],
            (0, 1): [0, 0, 0, 0, 0, 0, 0, 0, 0, 0],
            (0, 2): [0, -1, 1, 0, 0, 0, 0, 0, 0, 0],
            (1, 0): [0, 0, 0, 1, -1, 0, 0, 0, 0, 0],
            (1, 1): [0, 0, 0, 0, 0, 0, 0, 0, 0, 0],
            (1, 2): [0, 0, 0, 0, -1, 1, 0, 0, 0, 0],
            (2, 0): [0, 0, 0, 0, 0, 0, 1, -1, 0, 0],
            (2, 1): [0, 0, 0, 0, 0, 0, 0, 0, 0, 0],
        }
        self.assertEqual(list(told), all_stops(samples.NESTED))
        for stop in told:
            self.assertEqual(stopped(samples.NESTED, [stop]), told[stop])

    def test_several(self):
        self.assertEqual(stopped(samples.NESTED, all_stops(samples.NESTED)), [1, -2, 1, 1, -2, 1, 1, -1, 0, 0])
        self.assertEqual(stopped(samples.NESTED, [(1, 2), (0, 0), (1, 2), (1, 1), (1, 2), (1, 0)]),
                         [1, -1, 0, 1, -4, 3, 0, 0, 0, 0])
        self.assertEqual(stopped(samples.LINE, [(0, 0)] * 4000), [4000, -4000])
        self.assertEqual(stopped(samples.LINE, [(0, 1)] * 3), [0, 0])

    def test_drawn_stops_also_such_as_no_runs_have(self):
        for seed in range(60):
            web = samples.drawn_web(seed)
            draw = random.Random(seed)
            stops = [draw.choice(all_stops(web)) for stop in range(draw.randint(0, 30))]
            self.assertEqual(stopped(web, stops), plain_stopped(web, stops))

    def test_it_is_what_the_relations_sum_to_over_runs_broken_off(self):
        for seed in range(60):
            web = samples.drawn_web(seed) if seed % 2 else samples.calling_web(seed)
            draw = random.Random(seed)
            broken, stops = drawn_broken(web, draw, 6)
            numbers = samples.plain_counts(web, samples.drawn_heap(web, draw) + broken)
            sums = [sum(a * b for a, b in zip(relation, numbers, strict=True)) for relation in relations(web)]
            self.assertEqual(stopped(web, stops), sums)


class ReadBack(unittest.TestCase):
    def test_by_hand(self):
        plan = ([0], [(1, [1], [1, 0])], [([[0]], [])], None)
        self.assertEqual(read_back(samples.LINE, plan, [7], []), [7, 7])
        self.assertEqual(read_back(samples.LINE, plan, [0], []), [0, 0])
        self.assertEqual(read_back(samples.LINE, plan, [7], [(0, 0), (0, 0)]), [7, 9])
        self.assertEqual(read_back(samples.LINE, plan, [7], [(0, 1)]), [7, 7])
        self.assertEqual(read_back(samples.LINE, plan, [10 ** 30 - 1], []), [10 ** 30 - 1] * 2)

    def test_by_the_other_relation(self):
        plan = ([0], [(1, [1], [0, -1])], [([[0]], [])], None)
        self.assertEqual(read_back(samples.LINE, plan, [7], [(0, 0), (0, 0)]), [7, 9])
        plan = ([0], [(3, [3], [0, -3])], [([[0]], [])], None)
        self.assertEqual(read_back(samples.LINE, plan, [7], [(0, 0), (0, 0)]), [7, 9])

    def test_calls(self):
        plan = (
            [0, 1, 3],
            [(1, [0, 1, 0], [0, 0, 0, 1, -1]), (1, [1, 1, 0], [1, 0, 0, 0, 0]), (1, [0, 1, 0], [0, 0, 0, 0, -1])],
            [], None)
        web = samples.CALLED_ROUND
        self.assertEqual(read_back(web, plan, [4, 3, 5], []), [4, 3, 3, 5, 7, 3])
        # One run broken off ahead of its first row, one within part 1.
        self.assertEqual(read_back(web, plan, [4, 3, 5], [(0, 0), (0, 1), (1, 0)]), [4, 3, 2, 5, 8, 3])

    def test_only_choice_and_readings_are_looked_at(self):
        plan = plan_for(samples.NESTED, None)
        numbers = samples.plain_counts(samples.NESTED, [[0, 3, 4, 7, 6, 5, 6, 2, 3, 5, 6]])
        marks = marks_of(plan, numbers)
        for other in (plan, plan[:2] + ([], None), plan[:2] + (None, [1])):
            self.assertEqual(read_back(samples.NESTED, other, marks, []), numbers)

    def test_heaps_of_small_webs(self):
        for web in samples.CHOSEN_FROM:
            plan = plan_for(web, None)
            for numbers in samples.many_counts(web):
                self.assertEqual(read_back(web, plan, marks_of(plan, numbers), []), numbers)

    def test_every_beginning_of_short_runs(self):
        for web in samples.CHOSEN_FROM:
            plans = [plan_for(web, guesses) for guesses in (None, list(range(len(web[1]))))]
            for run in samples.plain_runs(web, 8):
                for length in range(len(run) + 1):
                    numbers = samples.plain_counts(web, [run[:length]])
                    for plan in plans:
                        told = read_back(web, plan, marks_of(plan, numbers), stood(web, run[:length]))
                        self.assertEqual(told, numbers)

    def test_heaps_and_runs_broken_off(self):
        for seed in range(90):
            web = samples.drawn_web(seed) if seed % 2 else samples.calling_web(seed)
            draw = random.Random(seed)
            broken, stops = drawn_broken(web, draw, 6)
            numbers = samples.plain_counts(web, samples.drawn_heap(web, draw) + broken)
            for guesses in (None, [draw.randrange(10 ** 30) for row in web[1]]):
                plan = plan_for(web, guesses)
                self.assertEqual(read_back(web, plan, marks_of(plan, numbers), stops), numbers)

    def test_the_same_run_broken_off_several_times(self):
        web = samples.NESTED
        plan = plan_for(web, None)
        run = [0, 3, 5]
        for times in (1, 2, 3, 200):
            numbers = samples.plain_counts(web, [run] * times)
            told = read_back(web, plan, marks_of(plan, numbers), stood(web, run) * times)
            self.assertEqual(told, numbers)

    def test_readings_that_are_divided(self):
        web = samples.DIVIDED
        plan = plan_for(web, [9, 0, 9, 9, 9, 0])
        self.assertEqual(plan[0], [1, 5])
        for two, three in itertools.product(range(5), repeat=2):
            numbers = [two, two, three, three, three, 2 * two + 3 * three, two + three, 2 * two + 3 * three]
            self.assertEqual(read_back(web, plan, [two, 2 * two + 3 * three], []), numbers)


class Marks(unittest.TestCase):
    def refuse(self, web, plan, marks, stops):
        with self.assertRaises(NoMarks):
            read_back(web, plan, marks, stops)

    def test_too_few_and_too_many(self):
        for web in samples.CHOSEN_FROM:
            plan = plan_for(web, None)
            marks = [0] * len(plan[0])
            self.assertEqual(read_back(web, plan, marks, []), [0] * (len(web[1]) + len(web[0])))
            for other in (marks[1:], marks + [0], marks + marks):
                self.refuse(web, plan, other, [])
            self.refuse(web, plan, [], [])

    def test_below_0(self):
        for web in samples.CHOSEN_FROM:
            plan = plan_for(web, None)
            for place in range(len(plan[0])):
                for mark in (-1, -10 ** 29):
                    marks = [0] * len(plan[0])
                    marks[place] = mark
                    self.refuse(web, plan, marks, [])

    def test_a_mark_below_0_where_all_that_is_read_is_not(self):
        # Row 1 of LOOPS leads to where it began: nothing is read from it.
        plan = plan_for(samples.LOOPS, None)
        self.assertIn(1, plan[0])
        numbers = [5, 3, 0, 0, 5, 5]
        marks = marks_of(plan, numbers)
        self.assertEqual(read_back(samples.LOOPS, plan, marks, []), numbers)
        marks[plan[0].index(1)] = -1
        self.refuse(samples.LOOPS, plan, marks, [])

    def test_a_rest(self):
        web = samples.DIVIDED
        plan = plan_for(web, [9, 0, 9, 9, 9, 0])
        self.assertEqual(plan[0], [1, 5])
        for two, called in itertools.product(range(5), range(20)):
            left = called - 2 * two
            if left >= 0 and left % 3 == 0:
                self.assertEqual(read_back(web, plan, [two, called], [])[2], left // 3)
            else:
                self.refuse(web, plan, [two, called], [])

    def test_a_count_below_0_without_a_rest(self):
        web = samples.DIVIDED
        plan = plan_for(web, [9, 0, 9, 9, 9, 0])
        for times in (1, 2, 10 ** 28):
            self.refuse(web, plan, [3 * times, 3 * times], [])
            self.refuse(web, plan, [3 * times, 0], [])

    def test_a_count_below_0_by_stops(self):
        plan = (
            [0, 1, 3],
            [(1, [0, 1, 0], [0, 0, 0, 1, -1]), (1, [1, 1, 0], [1, 0, 0, 0, 0]), (1, [0, 1, 0], [0, 0, 0, 0, -1])],
            [], None)
        web = samples.CALLED_ROUND
        self.assertEqual(read_back(web, plan, [0, 2, 0], [(1, 0)] * 2), [0, 2, 0, 0, 2, 2])
        self.refuse(web, plan, [0, 2, 0], [(1, 0)] * 3)

    def test_a_rest_by_stops(self):
        web = samples.DIVIDED
        plan = plan_for(web, [9, 0, 9, 9, 9, 0])
        self.assertEqual(read_back(web, plan, [1, 2], []), [1, 1, 0, 0, 0, 2, 1, 2])
        # One way by row 1 begun: it stands at place 2, in part 1 too; row 5 was not gone through.
        numbers = samples.plain_counts(web, [[0, 5, 1, 5], [0]])
        self.assertEqual(read_back(web, plan, [1, 2], [(0, 2), (1, 0)]), numbers)
        self.refuse(web, plan, [1, 2], [(0, 2)])
        self.refuse(web, plan, [1, 2], [(1, 0)])

    def test_a_number_more_in_one_mark_is_refused_or_counts_for_more(self):
        for web in samples.CHOSEN_FROM:
            plan = plan_for(web, None)
            for numbers in samples.many_counts(web)[:20]:
                for place in range(len(plan[0])):
                    marks = marks_of(plan, numbers)
                    marks[place] += 1
                    try:
                        told = read_back(web, plan, marks, [])
                    except NoMarks:
                        continue
                    self.assertEqual(marks_of(plan, told), marks)
                    self.assertGreaterEqual(min(told), 0)
                    for relation in relations(web):
                        self.assertEqual(sum(a * b for a, b in zip(relation, told, strict=True)), 0)

    def test_other_forms_are_no_marks(self):
        plan = ([0], [(1, [1], [1, 0])], [([[0]], [])], None)
        for marks in (None, (1,), [True], [None], ["1"], 1):
            self.refuse(samples.LINE, plan, marks, [])


class Kept(unittest.TestCase):
    def fresh(self):
        return ([3, 3, 2], list(samples.NESTED[1]))

    def test_nothing_handed_in_is_changed_and_all_told_is_new(self):
        stops = stood(samples.NESTED, [0, 3, 5])
        numbers = samples.plain_counts(samples.NESTED, [[0, 3, 5, 6, 2, 3, 5, 6], [0, 3, 5]])
        for guesses in (None, [3, 0, 5, 1, 1, 2, 5, 8]):
            plan = plan_for(samples.NESTED, guesses)
            samples.check_kept(self, read_back, self.fresh(), plan, marks_of(plan, numbers), list(stops))
        samples.check_kept(self, stopped, self.fresh(), list(stops))
        samples.check_kept(self, stopped, self.fresh(), [])

    def test_refusals_change_nothing(self):
        web = self.fresh()
        plan = plan_for(web, None)
        before = copy.deepcopy(plan)
        marks = [-1] * len(plan[0])
        stops = [(0, 0)]
        with self.assertRaises(NoMarks):
            read_back(web, plan, marks, stops)
        self.assertEqual((web, plan, marks, stops), (self.fresh(), before, [-1] * len(plan[0]), [(0, 0)]))


if __name__ == "__main__":
    unittest.main()
