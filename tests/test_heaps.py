import itertools
import random
import unittest

import samples
from fewcounters.errors import NoCounts, NoRun, NoWeb
from fewcounters.heaps import are_counts, counts, heap_of, relations
from fewcounters.webs import is_run


def relation_sums(web, numbers):
    return [sum(a * b for a, b in zip(relation, numbers, strict=True)) for relation in relations(web)]


class NoWebs(unittest.TestCase):
    def test_ahead_of_all_else(self):
        for what, web in samples.no_webs():
            for other in ([], [[]], [[0]], [[-1]], [[99]]):
                with self.subTest(what=what, other=other):
                    with self.assertRaises(NoWeb):
                        counts(web, other)
            for other in ([], [0], [-1], [1, 1], [0] * 99):
                with self.subTest(what=what, other=other):
                    with self.assertRaises(NoWeb):
                        are_counts(web, other)
                    with self.assertRaises(NoWeb):
                        heap_of(web, other)
            with self.assertRaises(NoWeb):
                relations(web)


class Counts(unittest.TestCase):
    def test_of_none(self):
        self.assertEqual(counts(samples.LINE, []), [0, 0])
        self.assertEqual(counts(samples.NESTED, []), [0] * 11)

    def test_one_run(self):
        self.assertEqual(counts(samples.LINE, [[0]]), [1, 1])
        self.assertEqual(counts(samples.LOOPS, [[0, 1, 1, 3, 2, 1, 4]]), [1, 3, 1, 1, 1, 1])
        self.assertEqual(counts(samples.NESTED, [[0, 3, 4, 7, 6, 5, 6, 2, 3, 5, 6]]),
                         [1, 0, 1, 2, 1, 2, 3, 1, 1, 2, 3])

    def test_several_runs_and_the_same_one_twice(self):
        one = [0, 1, 4]
        self.assertEqual(counts(samples.LOOPS, [one, [2, 4], one]), [2, 2, 1, 0, 3, 3])
        self.assertEqual(counts(samples.LOOPS, [[0, 1, 4], [2, 4], [0, 1, 4]]), [2, 2, 1, 0, 3, 3])
        self.assertEqual(counts(samples.CALLED_ROUND, [[0], [1, 3, 3, 2], [0], [1, 2]]), [2, 2, 2, 2, 4, 2])

    def test_parts_that_several_rows_call(self):
        self.assertEqual(counts(samples.MANY_CALLS, [[1, 4, 3, 2, 3, 0, 4, 3]]), [1, 1, 1, 3, 2, 1, 2, 3])

    def test_what_is_no_heap(self):
        for heap in ([[]], [[0], []], [[0], [0, 0]], [[1]], [[-1]], [[0], [0], [10 ** 29]], [[0], [-1]]):
            with self.subTest(heap):
                with self.assertRaises(NoRun):
                    counts(samples.LINE, heap)
        for heap in ([[0, 3, 5, 6]], [[0, 3, 5, 6, 2, 3, 5, 6], [0]], [[0, 3, 5, 6, 2]]):
            with self.subTest(heap):
                with self.assertRaises(NoRun):
                    counts(samples.NESTED, heap)

    def test_other_forms_are_no_heaps(self):
        for heap in (None, 0, [0], ([0],), [(0,)], [[False]], [None], [[None]]):
            with self.subTest(heap):
                with self.assertRaises(NoRun):
                    counts(samples.LINE, heap)

    def test_drawn_heaps(self):
        for seed in range(60):
            web = samples.drawn_web(seed)
            heap = samples.drawn_heap(web, random.Random(seed))
            self.assertEqual(counts(web, heap), samples.plain_counts(web, heap))

    def test_four_thousand_rows(self):
        self.assertEqual(counts(samples.LINE, [[0]] * 4000), [4000, 4000])
        self.assertEqual(counts(samples.LOOPS, [[0] + [1] * 3998 + [4]]), [1, 3998, 0, 0, 1, 1])


class Relations(unittest.TestCase):
    def test_one_row(self):
        self.assertEqual(relations(samples.LINE), [[-1, 1], [1, -1]])

    def test_rows_to_the_same_place_and_rows_alike(self):
        self.assertEqual(relations(samples.LOOPS), [
            [-1, 0, -1, 1, 0, 1],
            [0, 0, 0, 0, 1, -1],
            [1, 0, 1, -1, -1, 0],
        ])

    def test_calls(self):
        self.assertEqual(relations(samples.CALLED_ROUND), [
            [-1, -1, 0, 0, 1, 0],
            [1, 1, 0, 0, -1, 0],
            [0, 0, -1, 0, 0, 1],
            [0, 0, 1, 0, 0, -1],
            [0, 1, 0, 0, 0, -1],
        ])

    def test_several_calls_of_one_part(self):
        self.assertEqual(relations(samples.MANY_CALLS), [
            [-1, 0, 0, 0, 0, 1, 0, 0],
            [1, 0, 0, 0, 0, -1, 0, 0],
            [0, 0, 0, 0, -1, 0, 1, 0],
            [0, 0, 0, 0, 1, 0, -1, 0],
            [0, 0, 0, -1, 0, 0, 0, 1],
            [0, 0, 0, 1, 0, 0, 0, -1],
            [1, 1, 0, 0, 0, 0, -1, 0],
            [0, 0, 1, 0, 1, 0, 0, -1],
        ])

    def test_nested(self):
        self.assertEqual(relations(samples.NESTED), [
            [-1, 1, 0, 0, 0, 0, 0, 0, 1, 0, 0],
            [0, 0, 1, 0, 0, 0, 0, 0, -1, 0, 0],
            [1, -1, -1, 0, 0, 0, 0, 0, 0, 0, 0],
            [0, 0, 0, -1, 0, 0, 0, 0, 0, 1, 0],
            [0, 0, 0, 0, 0, 1, 0, 0, 0, -1, 0],
            [0, 0, 0, 1, 0, -1, 0, 0, 0, 0, 0],
            [0, 0, 0, 0, 0, 0, -1, 0, 0, 0, 1],
            [0, 0, 0, 0, 0, 0, 1, 0, 0, 0, -1],
            [1, 0, 1, 0, 0, 0, 0, 0, 0, -1, 0],
            [0, 1, 0, 0, 1, 1, 0, 0, 0, 0, -1],
        ])

    def test_sums_over_counts_are_0(self):
        for seed in range(80):
            web = samples.drawn_web(seed)
            heap = samples.drawn_heap(web, random.Random(seed))
            told = relation_sums(web, counts(web, heap))
            self.assertEqual(told, [0] * (sum(web[0]) + len(web[0]) - 1))


class AreCounts(unittest.TestCase):
    def test_zero_for_all(self):
        for web in samples.ALL:
            self.assertIs(are_counts(web, [0] * (len(web[0]) + len(web[1]))), True)

    def test_counts_of_heaps(self):
        for seed in range(80):
            web = samples.drawn_web(seed)
            heap = samples.drawn_heap(web, random.Random(seed))
            self.assertIs(are_counts(web, samples.plain_counts(web, heap)), True)

    def test_below_0(self):
        self.assertIs(are_counts(samples.LINE, [-1, -1]), False)
        self.assertIs(are_counts(samples.LOOPS, [3, 0, -1, 0, 2, 2]), False)
        self.assertIs(are_counts(samples.LOOPS, [1, -1, 0, 0, 1, 1]), False)

    def test_too_few_and_too_many(self):
        for numbers in ([], [1], [1, 1, 0], [1, 1, 1], [0], [0, 0, 0]):
            self.assertIs(are_counts(samples.LINE, numbers), False)
        self.assertIs(are_counts(samples.LINE, [1, 1]), True)
        self.assertIs(are_counts(samples.NESTED, [0] * 10), False)
        self.assertIs(are_counts(samples.NESTED, [0] * 12), False)

    def test_not_even(self):
        self.assertIs(are_counts(samples.LINE, [1, 2]), False)
        self.assertIs(are_counts(samples.LOOPS, [1, 0, 0, 0, 1, 1]), True)
        for k in (0, 2, 3, 4, 5):
            numbers = [1, 0, 0, 0, 1, 1]
            numbers[k] += 1
            self.assertIs(are_counts(samples.LOOPS, numbers), False)

    def test_even_in_each_part_but_not_called_so_often(self):
        self.assertIs(are_counts(samples.CALLED_ROUND, [0, 1, 1, 0, 1, 1]), True)
        self.assertIs(are_counts(samples.CALLED_ROUND, [1, 0, 1, 0, 1, 1]), False)
        self.assertIs(are_counts(samples.CALLED_ROUND, [0, 1, 0, 0, 1, 0]), False)

    def test_even_but_not_come_to(self):
        web = samples.ROUND_APART
        self.assertEqual(relation_sums(web, [1, 0, 2, 2, 0, 1]), [0] * 4)
        self.assertIs(are_counts(web, [1, 0, 2, 2, 0, 1]), False)
        self.assertIs(are_counts(web, [1, 1, 2, 2, 1, 2]), True)

    def test_a_row_to_its_own_place_that_is_not_come_to(self):
        web = ([3], [(0, 0, 1, -1), (0, 0, 2, -1), (0, 2, 2, -1), (0, 2, 1, -1)])
        self.assertIs(are_counts(web, [1, 0, 5, 0, 1]), False)
        self.assertIs(are_counts(web, [1, 1, 5, 1, 2]), True)

    def test_a_row_come_to_by_rows_with_0_alone(self):
        web = samples.ROUND_APART
        self.assertIs(are_counts(web, [3, 0, 1, 1, 0, 3]), False)

    def test_a_part_that_does_not_begin(self):
        web = samples.CALLED_ROUND
        self.assertEqual(relation_sums(web, [1, 0, 0, 4, 1, 0]), [0] * 5)
        self.assertIs(are_counts(web, [1, 0, 0, 4, 1, 0]), False)
        self.assertIs(are_counts(web, [1, 1, 1, 4, 2, 1]), True)

    def test_part_0_that_does_not_begin(self):
        web = ([2], [(0, 0, 0, -1), (0, 0, 1, -1)])
        self.assertEqual(relation_sums(web, [3, 0, 0]), [0, 0])
        self.assertIs(are_counts(web, [3, 0, 0]), False)
        self.assertIs(are_counts(web, [3, 1, 1]), True)
        self.assertIs(are_counts(samples.LOOPS, [1, 0, 0, 1, 0, 0]), False)

    def test_numbers_of_thirty_figures(self):
        many = 10 ** 30 - 1
        self.assertIs(are_counts(samples.LINE, [many, many]), True)
        self.assertIs(are_counts(samples.LINE, [many, many - 1]), False)
        self.assertIs(are_counts(samples.LINE, [-many, -many]), False)
        self.assertIs(are_counts(samples.LOOPS, [many, many, 0, many - 1, 1, 1]), True)
        self.assertIs(are_counts(samples.LOOPS, [many, many, 0, many, 0, 0]), False)

    def test_truths_and_other_forms(self):
        for numbers in ([True, True], [1, True], [False, 0], (1, 1), None, [1, None]):
            self.assertIs(are_counts(samples.LINE, numbers), False)

    def test_all_small_numbers(self):
        for web in samples.SMALL:
            size = len(web[0]) + len(web[1])
            cap = 3 if size <= 6 else 2
            known = samples.plain_heap_counts(web, cap)
            for numbers in itertools.product(range(cap + 1), repeat=size):
                if are_counts(web, list(numbers)) != (numbers in known):
                    self.fail((web, numbers))


class HeapOf(unittest.TestCase):
    def check(self, web, numbers):
        heap = heap_of(web, numbers)
        self.assertIsInstance(heap, list)
        for run in heap:
            self.assertIs(is_run(web, run), True)
        self.assertEqual(counts(web, heap), numbers)
        self.assertEqual(samples.plain_counts(web, heap), numbers)

    def test_zero_for_all(self):
        for web in samples.ALL:
            self.assertEqual(heap_of(web, [0] * (len(web[0]) + len(web[1]))), [])

    def test_the_one_heap_that_has_them(self):
        self.assertEqual(heap_of(samples.LINE, [2, 2]), [[0], [0]])
        self.assertEqual(heap_of(samples.LOOPS, [1, 3, 0, 0, 1, 1]), [[0, 1, 1, 1, 4]])
        self.assertEqual(heap_of(samples.DEEP, [1, 1, 1, 1, 2, 1, 1, 1, 1]), [[0, 1, 2, 4, 4, 3]])

    def test_all_small_counts(self):
        for web in samples.SMALL:
            for numbers in sorted(samples.plain_heap_counts(web, 3 if len(web[1]) < 5 else 2)):
                self.check(web, list(numbers))

    def test_counts_of_drawn_heaps(self):
        for seed in range(150):
            web = samples.drawn_web(seed)
            self.check(web, samples.plain_counts(web, samples.drawn_heap(web, random.Random(seed))))

    def test_a_round_at_place_0_when_all_runs_are_told(self):
        web = ([2], [(0, 0, 1, -1), (0, 0, 0, -1)])
        for runs in (1, 2, 3):
            for rounds in (0, 1, 5):
                self.check(web, [runs, rounds, runs])

    def test_large_counts(self):
        self.check(samples.LINE, [2000, 2000])
        self.check(samples.LOOPS, [1000, 998, 0, 999, 1, 1])
        self.check(samples.LOOPS, [1, 3997, 0, 0, 1, 1])
        self.check(samples.ROUND_APART, [1, 1, 1998, 1998, 1, 2])
        self.check(samples.DEEP, [400, 400, 400, 400, 800, 400, 400, 400, 400])
        self.check(samples.MANY_CALLS, [1, 300, 300, 601, 301, 1, 301, 601])

    def test_other_lists(self):
        cases = [
            (samples.LINE, [-1, -1]), (samples.LINE, [1]), (samples.LINE, [1, 1, 0]), (samples.LINE, []),
            (samples.LINE, [1, 2]), (samples.LINE, [10 ** 29, 0]), (samples.LINE, [True, True]),
            (samples.ROUND_APART, [1, 0, 2, 2, 0, 1]), (samples.CALLED_ROUND, [1, 0, 0, 4, 1, 0]),
            (samples.CALLED_ROUND, [1, 0, 1, 0, 1, 1]), (samples.LOOPS, [3, 0, -1, 0, 2, 2]),
            (samples.LOOPS, [1, 0, 0, 1, 0, 0]),
        ]
        for web, numbers in cases:
            with self.subTest(web=web, numbers=numbers):
                with self.assertRaises(NoCounts):
                    heap_of(web, numbers)

    def test_is_refused_just_where_they_are_no_counts(self):
        web = samples.CALLED_ROUND
        for numbers in itertools.product(range(3), repeat=6):
            if are_counts(web, list(numbers)):
                self.check(web, list(numbers))
            else:
                with self.assertRaises(NoCounts):
                    heap_of(web, list(numbers))


class Kept(unittest.TestCase):
    def fresh(self):
        return ([3, 3, 2], list(samples.NESTED[1]))

    def test_nothing_handed_in_is_changed_and_all_told_is_new(self):
        heap = [[0, 3, 4, 7, 6, 5, 6, 2, 3, 5, 6], [0, 3, 5, 6, 2, 3, 5, 6]]
        numbers = samples.plain_counts(samples.NESTED, heap)
        samples.check_kept(self, counts, self.fresh(), [list(run) for run in heap])
        samples.check_kept(self, counts, self.fresh(), [])
        samples.check_kept(self, relations, self.fresh())
        samples.check_kept(self, are_counts, self.fresh(), list(numbers))
        samples.check_kept(self, heap_of, self.fresh(), list(numbers))
        samples.check_kept(self, heap_of, self.fresh(), [0] * 11)

    def test_runs_that_are_alike_are_lists_of_their_own(self):
        heap = heap_of(samples.LINE, [3, 3])
        heap[0].append(5)
        self.assertEqual(heap, [[0, 5], [0], [0]])

    def test_a_web_that_is_changed_behind_is_looked_at_anew(self):
        web = ([2], [(0, 0, 1, -1)])
        told = relations(web)
        web[1].append((0, 0, 0, -1))
        self.assertEqual(told, [[-1, 1], [1, -1]])
        self.assertEqual(relations(web), [[-1, 0, 1], [1, 0, -1]])
        self.assertEqual(counts(web, [[1, 0]]), [1, 1, 1])
        self.assertEqual(heap_of(web, [1, 2, 1]), [[1, 1, 0]])

    def test_refusals_change_nothing(self):
        web = self.fresh()
        numbers = [1] * 11
        heap = [[0, 3]]
        with self.assertRaises(NoCounts):
            heap_of(web, numbers)
        with self.assertRaises(NoRun):
            counts(web, heap)
        self.assertEqual((web, numbers, heap), (self.fresh(), [1] * 11, [[0, 3]]))


if __name__ == "__main__":
    unittest.main()
