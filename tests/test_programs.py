import itertools
import random
import unittest

import texts
from fewcounters.errors import CountError, NoProgram, NoText
from fewcounters.programs import looked

LETTERS = "abcdefghijklmnopqrstuvwxyz"


def told(text):
    """None, ("text", word) or ("program", word), as looked tells of a text."""
    try:
        answer = looked(text)
    except NoText as refusal:
        return ("text", refusal.word)
    except NoProgram as refusal:
        return ("program", refusal.word)
    if answer is not None:
        raise ValueError("looked told something else than None")
    return None


def as_names(words):
    """The words as they stand, and with some of them, or all, taken as the name a."""
    return set(itertools.product(*[{word, "a"} if word in texts.WORDS else {word} for word in words]))


def dos(count):
    return " ".join(["do x"] * count)


def forks(count):
    return " ".join(["if x else end"] * count)


class Case(unittest.TestCase):
    def check(self, wanted, text):
        self.assertEqual(told(text), wanted, text)
        self.assertEqual(texts.plain_looked(text), wanted, text)

    def check_all(self, kind, cases):
        for word, text in cases:
            self.check((kind, word), text)


class Programs(Case):
    def test_each_sentence(self):
        for text in texts.GOOD:
            self.check(None, text)

    def test_empty_lists(self):
        for text in ("part a if b else end end", "part a while b end end", "part a if b do c else end end",
                     "part a if b else do c end end", "part a while b while c end end end",
                     "part a if b if c else end else if d else end end end"):
            self.check(None, text)

    def test_lists_side_by_side(self):
        self.check(None, "part a " + forks(15) + " end")
        self.check(None, "part a " + "while b end " * 15 + "end")
        self.check(None, "part a " + "while b leave end if c back else end " * 7 + "end")

    def test_lists_in_one_another(self):
        for deep in range(1, 16):
            self.check(None, "part a" + " while b" * deep + " end" * deep + " end")
            self.check(None, "part a" + " if b" * deep + " else end" * deep + " end")
            self.check(None, "part a" + " if b else" * deep + " end" * deep + " end")
            self.check(None, "part a" + " while b" * deep + " leave" + " end" * deep + " end")

    def test_any_word_as_a_name(self):
        for word in texts.WORDS:
            for text in ("part a do W end", "part a if W else end end", "part a while W end end",
                         "part W do x end", "part a call W end part W do x end",
                         "part W if W else while W end end end"):
                self.check(None, text.replace("W", word))
        self.check(None, texts.NAMES)

    def test_names_of_one_to_eight_letters(self):
        for size in range(1, 9):
            for name in (LETTERS[:size], LETTERS[-size:], "z" * size):
                self.check(None, "part main do " + name + " end")
                self.check(None, "part main call " + name + " end part " + name + " do x end")

    def test_all_small_programs(self):
        for words in texts.programs_of(10):
            text = " ".join(words)
            self.assertEqual(told(text), texts.plain_looked(text), text)


class NoTexts(Case):
    def test_all_small_texts(self):
        """The numbers by the words alone: a text can be gone on to a program where one begins with it."""
        programs = {tuple(words) for words in texts.programs_of(12)}
        begins = {words[:count] for words in programs for count in range(7)}
        known = texts.WORDS + ["a", ""]
        small = [words for count in (1, 2, 3) for words in itertools.product(known, repeat=count)]
        small += [("part", "a") + words for count in (2, 3, 4) for words in itertools.product(known, repeat=count)]
        for words in small:
            wrong = [count for count in range(len(words)) if not as_names(words[:count + 1]) & begins]
            kind, word = told(" ".join(words)) or ("program", 0)
            if wrong:
                self.assertEqual((kind, word), ("text", wrong[0]), words)
            elif as_names(words) & programs:
                self.assertEqual(kind, "program", words)
            else:
                self.assertEqual((kind, word), ("text", len(words)), words)

    def test_names(self):
        self.check_all("text", [
            (1, "part"), (1, "part "), (1, "part A do x end"), (1, "part a1 do x end"), (1, "part abcdefghi do x end"),
            (3, "part a do"), (3, "part a do "), (3, "part a do X end"), (3, "part a do x- end"),
            (3, "part a do abcdefghi end"), (3, "part a do x_y end"), (3, "part a do 0 end"), (3, "part a call"),
            (3, "part a call  end"), (3, "part a call abcdefghi end"), (3, "part a if"),
            (3, "part a if { else end end"), (3, "part a if abcdefghijklmnopqrstuvwxyz else end end"),
            (3, "part a while"), (3, "part a while ` end end"),
        ])
        for sign in [chr(number) for number in range(33, 127) if chr(number) not in LETTERS]:
            for name in (sign, "a" + sign, sign + "a", "abcdefg" + sign, "a" + sign + "b"):
                self.check(("text", 3), "part a do " + name + " end")
                self.check(("text", 1), "part " + name + " do x end")

    def test_blanks(self):
        self.check_all("text", [
            (0, ""), (0, " "), (0, "  "), (0, " part a do x end"), (0, "  part a do x end"), (5, "part a do x end "),
            (5, "part a do x end  "), (1, "part  a do x end"), (2, "part a  do x end"), (3, "part a do  x end"),
            (4, "part a do x  end"), (4, "part a do x   end"), (5, "part a do x end  part b do y end"),
        ])

    def test_at_the_top(self):
        self.check_all("text", [
            (0, "a"), (0, "do x"), (0, "end"), (0, "Part a do x end"), (0, "parts a do x end"),
            (5, "part a do x end end"),
            (5, "part a do x end do y"), (5, "part a do x end else"), (5, "part a do x end back"),
            (5, "part a do x end leave"), (5, "part a do x end a"), (6, "part a do x end part"),
            (7, "part a do x end part b"), (9, "part a do x end part b do y"), (2, "part a part b end end"),
        ])

    def test_within_lists(self):
        self.check_all("text", [
            (2, "part a"), (2, "part a else end"), (2, "part a x end"), (2, "part a leave end"), (2, "part a yes end"),
            (4, "part a if b end end"), (5, "part a if b else else end end"), (6, "part a if b else end"),
            (4, "part a while b else end end"), (5, "part a while b end"), (7, "part a if b else end end end"),
            (4, "part a while b part c end"), (6, "part a if b do c end"), (4, "part a do x y end"),
            (3, "part a back x end"), (5, "part a while b leave x end end"), (4, "part a if b"), (4, "part a while b"),
            (5, "part a if b else"), (7, "part a if b while c end end end"),
        ])

    def test_leaves_outside_of_a_while_of_their_part(self):
        self.check_all("text", [
            (2, "part a leave"), (4, "part a do x leave end"), (4, "part a if b leave else end end"),
            (5, "part a if b else leave end end"), (5, "part a while b end leave end"),
            (8, "part a while b end end part c leave end"),
            (11, "part a while b if c leave else leave end end leave end"),
        ])
        self.check(None, "part a while b if c leave else end end end")
        self.check(None, "part a while b if c else while d end leave end end end")

    def test_the_first_wrong_word_whatever_comes_behind(self):
        self.check_all("text", [
            (2, "part a leave leave x y  z"), (0, "x part a do x end"), (3, "part a do X do Y"),
            (5, "part a do x end y z"),
            (4, "part a do x else leave if"), (6, "part a while b do c else end end"),
        ])
        # What keeps a program from having a web is not looked at in a text that is none.
        self.check_all("text", [
            (6, "part a back do x end end"), (5, "part a call a end x"), (7, "part a end part a end part"),
            (9, "part a end part a end part a end x"),
        ])

    def test_cut_behind_any_word(self):
        for text in texts.GOOD + texts.drawn_programs(40):
            words = text.split(" ")
            for count in range(1, len(words)):
                cut = " ".join(words[:count])
                answer = told(cut)
                self.assertEqual(answer, texts.plain_looked(cut), cut)
                if answer and answer[0] == "text":
                    self.assertEqual(answer[1], count)
                # A cut before the last part's end leaves a program only where another part ended there.
                elif words[count] != "part":
                    self.fail(cut)

    def test_one_word_wrong(self):
        draw = random.Random(1)
        found = {}
        for text in (texts.GOOD + texts.drawn_programs(60)) * 12:
            for near in texts.near_texts(text, draw):
                answer = told(near)
                self.assertEqual(answer, texts.plain_looked(near), near)
                found[answer and answer[0]] = found.get(answer and answer[0], 0) + 1
        self.assertGreater(min(found.values()), 50)
        self.assertEqual(len(found), 3)

    def test_each_word_in_each_place(self):
        for text in (texts.LEAVES, texts.CALLS, texts.NAMES):
            words = text.split(" ")
            for place in range(len(words) + 1):
                for other in texts.WORDS + ["a", ""]:
                    for near in (words[:place] + [other] + words[place:], words[:place] + [other] + words[place + 1:]):
                        self.assertEqual(told(" ".join(near)), texts.plain_looked(" ".join(near)), near)

    def test_many_deep(self):
        for deep in (100, 798, 1000):
            self.check(("text", 2 + 2 * deep), "part a" + " if b" * deep)
            self.check(("text", 2 + 2 * deep), "part a" + " if b" * deep + " end")
            self.check(("text", 2 + 2 * deep), "part a" + " if b" * deep + " leave")
            self.check(("text", 3 + 2 * deep), "part a" + " if b" * deep + " back")
        for deep in (100, 284, 500):
            self.check(("text", 2 + 4 * deep), "part a" + " if b" * deep + " else end" * deep)
            self.check(("text", 3 + 4 * deep), "part a" + " if b" * deep + " else end" * deep + " end x")
        for deep in (100, 332, 500):
            self.check(("text", 2 + 3 * deep), "part a" + " while b" * deep + " end" * deep)
            self.check(("text", 4 + 3 * deep), "part a" + " while b" * deep + " leave" + " end" * deep + " end end")


class NoPrograms(Case):
    def test_a_part_named_as_an_earlier_one(self):
        self.check_all("program", [
            (6, "part a do x end part a do y end"), (11, "part a call b end part b do x end part b do y end"),
            (13, "part a call b call b end part b do x end part b do y end"),
            (16, "part a call b end part b call c end part c do x end part a do y end"),
        ])

    def test_calls(self):
        self.check_all("program", [
            (3, "part a call a end"), (3, "part a call b end"), (8, "part a call b end part b call a end"),
            (8, "part a call b end part b call b end"), (5, "part a do x call b end part c do y end"),
            (8, "part a do x end part b call b end"), (14, "part a do x call b end part b do y do z call c end"),
        ])
        # A later part of the name stands behind part b, though it is named as an earlier one.
        self.check(("program", 11), "part a call b end part b call a end part a do x end")

    def test_behind_a_leave_or_a_back(self):
        self.check_all("program", [
            (5, "part a do x back do y end"), (5, "part a do x back back end"), (5, "part a do x back call b end"),
            (5, "part a do x back if y else end end"), (5, "part a do x back while y leave end end"),
            (5, "part a while x leave do y end end"), (5, "part a while x leave leave end end"),
            (5, "part a while x leave back end end"), (5, "part a while x back leave end end"),
            (5, "part a while x leave if y else end end end"), (5, "part a while x leave while y end end end"),
            (5, "part a while x leave call b end end part b do y end"),
            (5, "part a if x back do y else end end"), (6, "part a if x else back do y end end"),
        ])

    def test_behind_an_if_of_which_both_lists_leave(self):
        self.check_all("program", [
            (8, "part a if x back else back end do y end"),
            (10, "part a while z if x leave else back end do y end end"),
            (10, "part a while z if x leave else leave end leave end end"),
            (15, "part a if x if y back else back end else do z back end do u end"),
        ])
        self.check(None, "part a if x back else end do y end")
        self.check(None, "part a if x else back end do y end")
        self.check(None, "part a if x if y back else end else back end do z end")
        self.check(None, "part a while z if x leave else leave end end do y end")

    def test_behind_a_while_one_comes_by_its_no(self):
        self.check(None, "part a while x back end do y end")
        self.check(None, "part a while x while y end end do z end")
        self.check(None, "part a while x while y leave end end do z end")
        self.check(None, "part a while x if y back else back end end do z end")
        # But not to one that stands where no run comes, nor behind it: the while itself is the first such word.
        self.check(("program", 5), "part a do x back while y end do z end")
        self.check(("program", 8), "part a if x back else back end while y end do z end")

    def test_a_later_part_that_no_call_names(self):
        self.check_all("program", [
            (6, "part a do x end part b do y end"), (11, "part a call b end part b do x end part c do y end"),
            (11, "part a call c end part c do x end part b do y end"),
            (11, "part a do x end part b do y end part c call b end"),
        ])
        # Any call will do, even one that is itself in the way, by its own number.
        self.check(("program", 8), "part a do x end part b call b end")

    def test_parts_without_rows(self):
        self.check_all("program", [
            (1, "part a end"), (1, "part a back end"), (1, "part a back back end"),
            (6, "part a call b end part b end"), (6, "part a call b end part b back end"),
            (1, "part a end part b end"),
        ])

    def test_parts_whose_begin_is_their_end(self):
        self.check_all("program", [
            (1, "part a back do x end"), (1, "part a back while x end end"), (1, "part a back call b end"),
            (6, "part a call b end part b back do x end"), (6, "part a call b end part b back if x else end do y end"),
        ])
        self.check(None, "part a while x back end end")
        self.check(None, "part a if x back else back end end")

    def test_thirty_rows(self):
        first = "part a call b " + forks(14) + " end part b "
        self.check(None, first + "do x end")
        self.check(None, "part a call b " + dos(14) + " end part b " + dos(15) + " end")
        self.check(None, "part a " + forks(15) + " end")
        self.check(None, "part a " + "while x end " * 15 + "end")
        words = len(first.split(" ")) - 1
        self.check(("program", words + 2), first + "do x do y end")
        self.check(("program", words + 2), first + "do x if y else end end")
        self.check(("program", words + 2), first + "do x while y end end")
        self.check(("program", words), first + "if x else end end")
        self.check(("program", words), first + "while x do y end end")
        self.check(("program", words), first + "if x do y else do z end do u end")
        self.check(("program", words + 2), first + "do x do y do z if u else end end")
        self.check(("program", words + 2), first + "do x call c end part c do y end")
        first = "part a call b call c " + forks(13) + " end part b do x end part c "
        self.check(None, first + "do y end")
        words = len(first.split(" ")) - 1
        self.check(("program", words + 2), first + "do y do z end")
        self.check(("program", words), first + "if y else end end")

    def test_sixteen_places(self):
        self.check(None, "part a " + dos(15) + " end")
        self.check(("program", 1), "part a " + dos(16) + " end")
        self.check(("program", 1), "part a " + forks(16) + " end")
        self.check(("program", 1), "part a " + dos(800) + " end")
        self.check(("program", 1), "part a" + " while x" * 16 + " end" * 17)
        self.check(None, "part a call b " + dos(14) + " end part b " + dos(15) + " end")
        words = 2 * 15 + 3
        self.check(("program", words + 1), "part a call b " + dos(14) + " end part b " + dos(16) + " end")

    def test_places_are_told_only_where_a_run_comes_to_all_rows(self):
        self.check(("program", 2 + 32 + 1), "part a " + dos(16) + " back do y end")
        self.check(("program", 2 + 32 + 1), "part a " + dos(16) + " back if y else end end")
        # A leave or a back is no row.
        self.check(("program", 1), "part a " + dos(16) + " back back end")
        self.check(("program", 1), "part a while x leave leave end " + dos(15) + " end")
        self.check(("program", 5), "part a while x leave leave end " + dos(14) + " end")
        # Only the part's own rows matter.
        self.check(("program", 1), "part a call b " + dos(15) + " end part b do x back do y end")
        self.check(("program", 5), "part a do x back call b end part b " + dos(16) + " end")

    def test_four_parts(self):
        four = "part a call b call c call d CALL end part b do x end part c do x end part d do x end"
        self.check(None, four.replace(" CALL", ""))
        words = len(four.split(" ")) + 1
        self.check(("program", words + 1), four.replace("CALL", "call e") + " part e do x end")
        self.check(("program", words + 1), four.replace("CALL", "call e") + " part e do x end part f do x end")
        self.check(("program", words + 1), four.replace("CALL", "call e") + " part e end part e end")

    def test_the_first_of_several(self):
        wrong = [
            (1, "part a end"), (1, "part a back do x end"), (3, "part a call a end"), (5, "part a do x back do y end"),
            (5, "part a while x leave leave end end"), (1, "part a " + dos(16) + " end"), (3, "part a call z end"),
        ]
        for word, text in wrong:
            for behind in ("part b do y end", "part b call a end", "part b end", "part b back do x end",
                           "part b do x back back end", "part b " + dos(40) + " end", "part b call b end",
                           "part b do x end part b do x end part b do x end part b do x end"):
                self.check(("program", word), text + " " + behind)
        ahead = "part a call b do x end "
        for word, behind in [
            (8, "part b end"), (10, "part b call b end"), (12, "part b do x back do y end"),
            (8, "part a call b end part b do x end"), (8, "part c call b end part b do x end"),
            (13, "part b do x end part c do y back back end"), (13, "part b do x end part b end"),
            (8, "part b " + dos(16) + " end"), (13, "part b call c end part c end part d end part e end"),
            (10, "part b call a do x back do y end part c end"), (8, "part b back call b back end part b end"),
        ]:
            self.check(("program", word), ahead + behind)

    def test_drawn(self):
        found = {}
        for seed in range(2500):
            text = texts.drawn_text(seed)
            answer = told(text)
            self.assertEqual(answer, texts.plain_looked(text), text)
            for reason, words in texts.plain_hindrances(texts.plain_tree(text)).items():
                found[reason] = found.get(reason, 0) + (answer is not None and answer[1] in words)
            found[None] = found.get(None, 0) + (answer is None)
        self.assertEqual([reason for reason in found if not found[reason]], [])
        self.assertGreater(found[None], 200)


class Kept(Case):
    def test_refusals_are_of_their_own_class_and_keep_a_whole_number(self):
        for text, kind in (("", NoText), ("part", NoText), ("part a end", NoProgram), ("part b call b end", NoProgram)):
            with self.assertRaises(CountError) as caught:
                looked(text)
            self.assertIs(caught.exception.__class__, kind)
            self.assertIs(caught.exception.word.__class__, int)

    def test_asked_again(self):
        for text in texts.GOOD + ["", "part a", "part a end", "part a do x back do y end"]:
            first = told(text)
            told("part a do x end")
            told("part")
            self.assertEqual(told(text), first)

    def test_arguments(self):
        self.assertIsNone(looked(text=texts.PLAIN))


if __name__ == "__main__":
    unittest.main()
