import unittest

import samples
import texts
from fewcounters.errors import NoProgram, NoText
from fewcounters.finder import plan_for
from fewcounters.judge import judged
from fewcounters.program_webs import names_of, web_of
from fewcounters.webs import is_web


class NoTexts(unittest.TestCase):
    def test_refused_as_looked_refuses(self):
        for text, kind, word in [
            ("", NoText, 0), (" ", NoText, 0), ("part a", NoText, 2), ("part a do X end", NoText, 3),
            ("part a leave end", NoText, 2), ("part a do x end ", NoText, 5), ("part a end", NoProgram, 1),
            ("part a call a end", NoProgram, 3), ("part a do x back do y end", NoProgram, 5),
            ("part a do x end part b do y end", NoProgram, 6), ("part a " + "do x " * 16 + "end", NoProgram, 1),
            ("part a back do x end end", NoText, 6),
        ]:
            for function in (names_of, web_of):
                with self.assertRaises(kind) as caught:
                    function(text)
                self.assertEqual(caught.exception.word, word)


class Names(unittest.TestCase):
    def test_by_hand(self):
        self.assertEqual(names_of(texts.PLAIN), [("do", "b")])
        self.assertEqual(names_of(texts.FORK), [("yes", "b"), ("no", "b"), ("do", "c"), ("do", "d")])
        self.assertEqual(names_of(texts.EMPTY_ROUND), [("yes", "b"), ("no", "b")])
        self.assertEqual(names_of(texts.EMPTY_FORK), [("yes", "b"), ("no", "b")])
        self.assertEqual(names_of(texts.LEAVES), [
            ("yes", "more"), ("no", "more"), ("yes", "stop"), ("no", "stop"), ("do", "work"), ("do", "last")])

    def test_yes_and_no_ahead_of_what_stands_in_the_lists(self):
        text = "part a while b do c if d do e else do f end do g end do h end"
        self.assertEqual(names_of(text), [
            ("yes", "b"), ("no", "b"), ("do", "c"), ("yes", "d"), ("no", "d"), ("do", "e"), ("do", "f"), ("do", "g"),
            ("do", "h")])

    def test_through_all_parts(self):
        self.assertEqual(names_of(texts.CALLS), [
            ("call", "one"), ("yes", "again"), ("no", "again"), ("call", "two"), ("call", "one"), ("do", "x"),
            ("call", "two"), ("yes", "y"), ("no", "y"), ("do", "z")])

    def test_words_as_names(self):
        self.assertEqual(names_of(texts.NAMES), [
            ("do", "do"), ("call", "call"), ("yes", "if"), ("no", "if"), ("yes", "while"), ("no", "while"),
            ("do", "else")])

    def test_drawn(self):
        for text in texts.drawn_programs(300):
            told = names_of(text)
            self.assertIsInstance(told, list)
            self.assertEqual(told, [row[:2] for row in texts.plain_rows(texts.plain_tree(text))])


class Webs(unittest.TestCase):
    def check(self, text, places, rows):
        web = (places, rows)
        self.assertEqual(web_of(text), web)
        self.assertEqual(texts.plain_web(text), web)
        self.assertTrue(is_web(web_of(text)))

    def test_rows_behind_one_another(self):
        self.check("part a do b end", [2], [(0, 0, 1, -1)])
        self.check("part a do b do c do d end", [4], [(0, 0, 2, -1), (0, 2, 3, -1), (0, 3, 1, -1)])
        self.check("part a do b back end", [2], [(0, 0, 1, -1)])

    def test_forks(self):
        self.check(texts.EMPTY_FORK, [2], [(0, 0, 1, -1), (0, 0, 1, -1)])
        self.check(texts.FORK, [4], [(0, 0, 2, -1), (0, 0, 3, -1), (0, 2, 3, -1), (0, 3, 1, -1)])
        self.check("part a if b else do c end do d end", [4],
                   [(0, 0, 2, -1), (0, 0, 3, -1), (0, 3, 2, -1), (0, 2, 1, -1)])
        self.check("part a if b do c else do d end end", [4],
                   [(0, 0, 2, -1), (0, 0, 3, -1), (0, 2, 1, -1), (0, 3, 1, -1)])
        self.check("part a do x if b if c else end else end end", [4],
                   [(0, 0, 2, -1), (0, 2, 3, -1), (0, 2, 1, -1), (0, 3, 1, -1), (0, 3, 1, -1)])

    def test_rounds(self):
        self.check(texts.EMPTY_ROUND, [2], [(0, 0, 0, -1), (0, 0, 1, -1)])
        self.check(texts.ROUND, [3], [(0, 0, 2, -1), (0, 0, 1, -1), (0, 2, 0, -1)])
        self.check("part a do x while b end do y end", [4],
                   [(0, 0, 2, -1), (0, 2, 2, -1), (0, 2, 3, -1), (0, 3, 1, -1)])
        # The end of a while within a while leads on to the outer one.
        self.check("part a while b while c end end end", [3],
                   [(0, 0, 2, -1), (0, 0, 1, -1), (0, 2, 2, -1), (0, 2, 0, -1)])

    def test_leaves(self):
        self.check("part a while b leave end end", [2], [(0, 0, 1, -1), (0, 0, 1, -1)])
        self.check("part a while b leave end do c end", [3], [(0, 0, 2, -1), (0, 0, 2, -1), (0, 2, 1, -1)])
        self.check(texts.LEAVES, [5], [(0, 0, 2, -1), (0, 0, 3, -1), (0, 2, 3, -1), (0, 2, 4, -1), (0, 4, 0, -1),
                                       (0, 3, 1, -1)])
        # A leave within an if within two whiles leaves the inner one, which stands last in the outer one's list.
        self.check("part a while b while c if d leave else end end end end", [4],
                   [(0, 0, 2, -1), (0, 0, 1, -1), (0, 2, 3, -1), (0, 2, 0, -1), (0, 3, 0, -1), (0, 3, 2, -1)])

    def test_backs(self):
        self.check("part a while b back end do c end", [3], [(0, 0, 1, -1), (0, 0, 2, -1), (0, 2, 1, -1)])
        self.check("part a if b back else back end end", [2], [(0, 0, 1, -1), (0, 0, 1, -1)])
        self.check("part a while b do c if d back else end end do e end", [5],
                   [(0, 0, 2, -1), (0, 0, 3, -1), (0, 2, 4, -1), (0, 4, 1, -1), (0, 4, 0, -1), (0, 3, 1, -1)])

    def test_calls(self):
        self.check("part a call b end part b do c end", [2, 2], [(0, 0, 1, 1), (1, 0, 1, -1)])
        self.check(texts.CALLS, [5, 3, 3], [
            (0, 0, 2, 1), (0, 2, 3, -1), (0, 2, 4, -1), (0, 3, 2, 2), (0, 4, 1, 1), (1, 0, 2, -1), (1, 2, 1, 2),
            (2, 0, 1, -1), (2, 0, 2, -1), (2, 2, 1, -1)])
        self.check(texts.NAMES, [5, 2], [
            (0, 0, 2, -1), (0, 2, 3, 1), (0, 3, 4, -1), (0, 3, 1, -1), (0, 4, 1, -1), (0, 4, 1, -1), (1, 0, 1, -1)])

    def test_numbers_in_the_order_of_the_rows_places(self):
        # The no's spot comes ahead of those within the yes's list, in which more rows stand.
        self.check("part a if b do c do d else do e end do f end", [6], [
            (0, 0, 2, -1), (0, 0, 3, -1), (0, 2, 4, -1), (0, 4, 5, -1), (0, 3, 5, -1), (0, 5, 1, -1)])
        self.check(texts.DEEP, [9], [
            (0, 0, 2, -1), (0, 0, 1, -1), (0, 2, 3, -1), (0, 2, 4, -1), (0, 3, 4, -1), (0, 3, 5, -1), (0, 5, 6, -1),
            (0, 5, 7, -1), (0, 6, 7, -1), (0, 6, 8, -1), (0, 8, 1, -1), (0, 8, 5, -1), (0, 7, 2, -1), (0, 4, 0, -1)])

    def test_the_most(self):
        line = "part a " + "do x " * 15 + "end"
        self.check(line, [16], [(0, 0, 2, -1)] + [(0, k, k + 1, -1) for k in range(2, 15)] + [(0, 15, 1, -1)])
        forks = "part a " + "if x else end " * 15 + "end"
        ends = [(0, 2)] + [(k, k + 1) for k in range(2, 15)] + [(15, 1)]
        self.check(forks, [16], [(0, start, to, -1) for start, to in ends for answer in range(2)])
        deep = "part a" + " while x" * 15 + " end" * 16
        self.assertEqual(web_of(deep), texts.plain_web(deep))
        self.assertEqual((web_of(deep)[0], len(web_of(deep)[1])), ([16], 30))

    def test_drawn(self):
        for text in texts.GOOD + texts.drawn_programs(400):
            web = web_of(text)
            self.assertTrue(is_web(web))
            self.assertEqual(web, texts.plain_web(text))
            self.assertEqual(len(web[1]), len(names_of(text)))

    def test_small_programs(self):
        count = 0
        for words in texts.programs_of(11):
            text = " ".join(words)
            if texts.plain_looked(text) is None:
                count += 1
                self.assertEqual(web_of(text), texts.plain_web(text))
                self.assertTrue(is_web(web_of(text)))
        self.assertGreater(count, 50)

    def test_there_is_a_plan_for_each(self):
        for text in texts.GOOD + texts.drawn_programs(20):
            web = web_of(text)
            self.assertIsNone(judged(web, plan_for(web, None)))


class Kept(unittest.TestCase):
    def test_all_told_is_new(self):
        for text in texts.GOOD:
            samples.check_kept(self, names_of, text)
            samples.check_kept(self, web_of, text)

    def test_arguments(self):
        self.assertEqual(names_of(text=texts.PLAIN), [("do", "b")])
        self.assertEqual(web_of(text=texts.PLAIN), ([2], [(0, 0, 1, -1)]))


if __name__ == "__main__":
    unittest.main()
