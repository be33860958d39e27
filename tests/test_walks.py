import itertools
import random
import unittest

import samples
import texts
from fewcounters.errors import NoAnswer, NoProgram, NoText
from fewcounters.program_webs import web_of
from fewcounters.walks import walked
from fewcounters.webs import is_run, stood

NO_ANSWERS = [[2], [-1], [0, 2], [2, 0], [1, 0, -1], [10 ** 29], [-10 ** 29], [0] * 50 + [3], [1, 10 ** 30 - 1]]
NO_BOUNDS = [-1, -2, -10 ** 29, 1 - 10 ** 30]


class Refused(unittest.TestCase):
    def test_texts_ahead_of_all_else(self):
        for text, kind, word in [("", NoText, 0), ("part a do", NoText, 3), ("part a do x end x", NoText, 5),
                                 ("part a end", NoProgram, 1), ("part a do x back back end", NoProgram, 5)]:
            for answers in ([], [1], [2], [-1]):
                for bound in (0, 5, -1):
                    with self.assertRaises(kind) as caught:
                        walked(text, answers, bound)
                    self.assertEqual(caught.exception.word, word)

    def test_answers(self):
        for text in texts.GOOD:
            for answers in NO_ANSWERS:
                for bound in (0, 1, 100, 10 ** 29):
                    with self.assertRaises(NoAnswer):
                        walked(text, answers, bound)

    def test_bounds(self):
        for text in texts.GOOD:
            for answers in ([], [0], [1, 0, 1]):
                for bound in NO_BOUNDS:
                    with self.assertRaises(NoAnswer):
                        walked(text, answers, bound)

    def test_truths_are_no_numbers(self):
        for answers, bound in (([True], 5), ([False], 5), ([1, True], 5), ([1], True), ([1], False)):
            with self.assertRaises(NoAnswer):
                walked(texts.FORK, answers, bound)


class Walks(unittest.TestCase):
    def test_that_end(self):
        self.assertEqual(walked(texts.PLAIN, [], 5), ([0], "ended", []))
        self.assertEqual(walked(texts.FORK, [1], 9), ([0, 2, 3], "ended", []))
        self.assertEqual(walked(texts.FORK, [0], 9), ([1, 3], "ended", []))
        self.assertEqual(walked(texts.ROUND, [1, 1, 0], 9), ([0, 2, 0, 2, 1], "ended", []))
        self.assertEqual(walked(texts.EMPTY_ROUND, [1, 1, 1, 0], 9), ([0, 0, 0, 1], "ended", []))
        self.assertEqual(walked(texts.EMPTY_FORK, [1], 9), ([0], "ended", []))

    def test_leaves_and_backs(self):
        self.assertEqual(walked(texts.LEAVES, [1, 0, 1, 1], 99), ([0, 3, 4, 0, 2, 5], "ended", []))
        self.assertEqual(walked(texts.LEAVES, [0], 99), ([1, 5], "ended", []))
        self.assertEqual(walked(texts.BACKS, [1], 99), ([0], "ended", []))
        self.assertEqual(walked(texts.BACKS, [0, 1, 0, 1, 1], 99), ([1, 2, 4, 6, 2, 4, 5], "ended", []))
        self.assertEqual(walked(texts.BACKS, [0, 0], 99), ([1, 3], "ended", []))

    def test_calls_ahead_of_their_parts_rows(self):
        self.assertEqual(walked(texts.CALLS, [1, 1, 0, 0, 1], 99),
                         ([0, 5, 6, 7, 1, 3, 8, 9, 2, 4, 5, 6, 7], "ended", []))
        self.assertEqual(walked("part a call b end part b do x back end", [], 9), ([0, 1], "ended", []))

    def test_that_end_just_at_the_bound(self):
        self.assertEqual(walked(texts.PLAIN, [], 1), ([0], "ended", []))
        self.assertEqual(walked(texts.FORK, [1], 3), ([0, 2, 3], "ended", []))
        self.assertEqual(walked(texts.EMPTY_ROUND, [0], 1), ([1], "ended", []))
        self.assertEqual(walked(texts.CALLS, [1, 1, 0, 0, 1], 13)[1], "ended")

    def test_that_stop_at_the_bound(self):
        self.assertEqual(walked(texts.PLAIN, [], 0), ([], "bound", [(0, 0)]))
        self.assertEqual(walked(texts.FORK, [1], 0), ([], "bound", [(0, 0)]))
        self.assertEqual(walked(texts.FORK, [1], 1), ([0], "bound", [(0, 2)]))
        self.assertEqual(walked(texts.FORK, [1], 2), ([0, 2], "bound", [(0, 3)]))
        self.assertEqual(walked(texts.CALLS, [1, 1, 0, 0, 1], 3), ([0, 5, 6], "bound", [(0, 2), (1, 1), (2, 0)]))
        self.assertEqual(walked(texts.CALLS, [1, 1, 0, 0, 1], 12), ([0, 5, 6, 7, 1, 3, 8, 9, 2, 4, 5, 6], "bound",
                                                                    [(0, 1), (1, 1), (2, 0)]))
        self.assertEqual(walked(texts.EMPTY_ROUND, [1] * 9, 5), ([0] * 5, "bound", [(0, 0)]))

    def test_for_want_of_an_answer(self):
        self.assertEqual(walked(texts.FORK, [], 1), ([], "wanting", [(0, 0)]))
        self.assertEqual(walked(texts.ROUND, [1], 99), ([0, 2], "wanting", [(0, 0)]))
        self.assertEqual(walked(texts.CALLS, [], 99), ([0, 5, 6], "wanting", [(0, 2), (1, 1), (2, 0)]))
        self.assertEqual(walked(texts.CALLS, [1, 1], 99), ([0, 5, 6, 7, 1, 3], "wanting", [(0, 2), (2, 0)]))

    def test_the_bound_ahead_of_a_wanting_answer(self):
        self.assertEqual(walked(texts.FORK, [], 0), ([], "bound", [(0, 0)]))
        self.assertEqual(walked(texts.ROUND, [1], 2), ([0, 2], "bound", [(0, 0)]))
        self.assertEqual(walked(texts.ROUND, [1], 3), ([0, 2], "wanting", [(0, 0)]))

    def test_answers_too_many(self):
        self.assertEqual(walked(texts.PLAIN, [1, 0, 1], 9), ([0], "ended", []))
        self.assertEqual(walked(texts.FORK, [0] + [1] * 99, 9), ([1, 3], "ended", []))
        self.assertEqual(walked(texts.ROUND, [1, 0, 1, 1], 9), walked(texts.ROUND, [1, 0], 9))

    def test_numbers_of_thirty_figures(self):
        self.assertEqual(walked(texts.FORK, [1], 10 ** 29), ([0, 2, 3], "ended", []))
        self.assertEqual(walked(texts.ROUND, [1], 10 ** 30 - 1), ([0, 2], "wanting", [(0, 0)]))

    def test_long_walks(self):
        rows, word, stack = walked(texts.ROUND, [1] * 3000, 10 ** 9)
        self.assertEqual((rows, word, stack), ([0, 2] * 3000, "wanting", [(0, 0)]))
        self.assertEqual(walked(texts.ROUND, [1] * 3000, 3001)[1:], ("bound", [(0, 2)]))
        # Nine calls in each of two parts: all are gone through without a question.
        text = "part a " + "call b " * 9 + "end part b " + "call c " * 9 + "end part c do x end"
        rows, word, stack = walked(text, [], 10 ** 4)
        self.assertEqual((len(rows), word, stack), (9 + 81 + 81, "ended", []))

    def check(self, text, answers, bound):
        rows, word, stack = walked(text, answers, bound)
        self.assertEqual((rows, word), texts.plain_walk(text, answers, bound), (text, answers, bound))
        web = web_of(text)
        self.assertEqual(stack, stood(web, rows))
        self.assertEqual(word == "ended", is_run(web, rows))
        self.assertLessEqual(len(rows), bound)
        return word

    def test_all_short_answers(self):
        for text in texts.GOOD:
            for count in range(5):
                for answers in itertools.product([0, 1], repeat=count):
                    for bound in (0, 1, 2, 3, 5, 8, 40):
                        self.check(text, list(answers), bound)

    def test_drawn(self):
        found = []
        for seed, text in enumerate(texts.drawn_programs(300)):
            draw = random.Random(seed)
            for more in range(4):
                answers = [draw.choice([0, 0, 1]) for answer in range(draw.choice([0, 1, 3, 8, 30, 100]))]
                found.append(self.check(text, answers, draw.choice([0, 1, 2, 5, 10, 30, 1000, 10 ** 29])))
        for word in ("ended", "bound", "wanting"):
            self.assertGreater(found.count(word), 50)

    def test_each_bound_and_count_of_answers(self):
        for seed, text in enumerate(texts.drawn_programs(25)):
            draw = random.Random(seed)
            answers = [draw.randint(0, 1) for answer in range(12)]
            full = walked(text, answers, 60)[0]
            for bound in range(len(full) + 2):
                self.check(text, answers, bound)
                self.assertEqual(walked(text, answers, bound)[0], full[:bound])
            for count in range(len(answers)):
                self.check(text, answers[:count], 60)


class Kept(unittest.TestCase):
    def test_nothing_handed_in_is_changed_and_all_told_is_new(self):
        for text in texts.GOOD:
            for answers, bound in (([], 0), ([], 9), ([1, 1, 0, 1], 4), ([0, 0, 1, 0, 0], 50)):
                samples.check_kept(self, walked, text, list(answers), bound)

    def test_refusals_change_nothing(self):
        answers = [0, 1, 2]
        with self.assertRaises(NoAnswer):
            walked(texts.FORK, answers, 4)
        self.assertEqual(answers, [0, 1, 2])

    def test_arguments(self):
        self.assertEqual(walked(text=texts.PLAIN, answers=[], bound=1), ([0], "ended", []))


if __name__ == "__main__":
    unittest.main()
