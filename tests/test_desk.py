import random
import unittest

import samples
import texts
from fewcounters.chains import chains
from fewcounters.desk import Desk
from fewcounters.errors import CountError, NoAnswer, NoGuess, NoName, NoProgram, NoRow, NoText
from fewcounters.finder import cost, plan_for
from fewcounters.program_webs import web_of
from fewcounters.walks import walked

NO_NAMES = ["", "A", "aB", "abcdefghi", "a1", "1", "-", "a-", "a_b", "a.", "~"]
NO_NUMBERS = ["", "-", "-1", "+1", "00", "01", "007", "1.0", "1e3", "a", "0x1", "1_0", "9" * 31, "0" * 30, "1" + "0" * 30]
NUMBERS = ["0", "1", "7", "10", "100", "9" * 30, "1" + "0" * 29]
NO_ANSWERS = ["", "2", "012", "0-", "-0", "--", "a", "01a", "1.", "+1"]

RIGHT = ["put x " + texts.FORK, "drop a", "names", "show a", "guess a 1 2 3 4", "counters a", "run a 1 9", "report a",
         "chains a", "ways a a", "rows a"]


class Case(unittest.TestCase):
    def setUp(self):
        self.desk = Desk()
        self.say("put a " + texts.FORK)
        self.say("put b " + texts.CALLS)
        self.say("run a 1 99")
        self.say("run b 1 99")

    def say(self, row):
        told = self.desk.say(row)
        self.assertIsInstance(told, str)
        return told

    def all_told(self):
        """All that the desk tells without being changed."""
        told = [self.desk.say("names")]
        for name in told[0].split(" "):
            for word in ("show", "counters", "report", "chains", "rows"):
                told.append(self.desk.say(word + " " + name))
        return told

    def refuse(self, kind, row, word=None):
        """That a row is refused, and nothing is changed by it."""
        before = self.all_told()
        with self.assertRaises(CountError) as caught:
            self.desk.say(row)
        self.assertIsInstance(caught.exception, kind, row)
        if word is not None:
            self.assertEqual(caught.exception.word, word, row)
        self.assertEqual(self.all_told(), before)


class Rows(Case):
    def test_right_ones(self):
        chosen = " ".join(map(str, plan_for(web_of(texts.FORK), [1, 2, 3, 4])[0]))
        self.assertEqual([self.say(row) for row in RIGHT[2:] + RIGHT[:2]],
                         ["a b", texts.FORK, "ok", chosen, "ended", "1 0 1 1 1", "1", "2", "yes:b no:b do:c do:d",
                          "ok", "ok"])

    def test_first_words(self):
        for word in ("", "Put", "puts", "pu", "get", "name", "names.", "a", "ok", "list", "part", "do", "~"):
            for more in ("", " ", " a", " a b", " a 1 9", " A", " " + texts.FORK, " a " + texts.FORK):
                self.refuse(NoRow, word + more)

    def test_counts_of_words(self):
        for row in RIGHT:
            words = row.split(" ")
            most = {"put": 99, "guess": 99, "names": 1, "run": 4, "ways": 3}.get(words[0], 2)
            least = {"put": 3, "names": 1, "run": 4, "ways": 3}.get(words[0], 2)
            for count in range(1, 8):
                # The words are such as are refused by something else, where their count is right.
                for other in ("", "A", "nobody", "9" * 31):
                    told = " ".join(words[:1] + [other] * (count - 1))
                    if not least <= count <= most:
                        self.refuse(NoRow, told)
                    elif words[0] == "put" and other == "nobody":
                        self.refuse(NoText, told, 0)
                    elif words[0] != "names":
                        self.refuse(NoName, told)

    def test_words_without_signs_count(self):
        for row in ("names ", " names", "show a ", "show  a", " show a", "report a ", "run a 1 9 ", "run a 1  9",
                    "run a  1 9", "ways a a ", "drop a ", "rows  a", "counters a ", "chains a ", "", " ", "  "):
            self.refuse(NoRow, row)
        for row in ("show ", "drop ", "guess ", "put  x", "put   ", "run  1 9", "ways  a", "ways a ", "guess  1"):
            self.refuse(NoName, row)
        self.refuse(NoText, "put a ", 0)
        self.refuse(NoText, "put a  ", 0)
        self.refuse(NoText, "put a  " + texts.FORK, 0)
        self.refuse(NoText, "put a " + texts.FORK + " ", len(texts.FORK.split(" ")))
        self.refuse(NoText, "put a part a do  x end", 3)
        self.refuse(NoGuess, "guess a ")
        self.refuse(NoGuess, "guess a 1 2 3 4 ")
        self.refuse(NoGuess, "guess a 1 2  4")
        self.refuse(NoAnswer, "run a  9")
        self.refuse(NoAnswer, "run a 1 ")

    def test_no_row_ahead_of_all_else(self):
        for row in ("run A 2", "run nobody 2 -1 5", "show A b", "drop A A", "ways A", "ways nobody", "put A", "put a",
                    "put", "guess", "report", "names A", "run a 2 9 9", "counters nobody 1"):
            self.refuse(NoRow, row)


class Names(Case):
    def test_no_names(self):
        for name in NO_NAMES:
            self.refuse(NoName, "put " + name + " " + texts.FORK)
            self.refuse(NoName, "put " + name + " part")
            for row in RIGHT[1:2] + RIGHT[3:]:
                words = row.split(" ")
                self.refuse(NoName, " ".join(words[:1] + [name] + words[2:]))

    def test_names_by_which_nothing_stands(self):
        for name in ("c", "aa", "names", "main", "abcdefgh"):
            for row in RIGHT[1:2] + RIGHT[3:]:
                words = row.split(" ")
                self.refuse(NoName, " ".join(words[:1] + [name] + words[2:]))

    def test_from_the_left(self):
        self.refuse(NoName, "put A part")
        self.refuse(NoName, "put abcdefghi ")
        self.refuse(NoName, "run A 2 9")
        self.refuse(NoName, "run nobody 2 -1")
        self.refuse(NoName, "guess nobody x")
        self.refuse(NoName, "guess A")
        self.refuse(NoName, "ways nobody A")
        self.refuse(NoAnswer, "run a 2 -1")

    def test_names_are_told_sorted(self):
        for name in ("z", "aa", "put", "abcdefgh", "names", "ab"):
            self.assertEqual(self.say("put " + name + " " + texts.PLAIN), "ok")
        self.assertEqual(self.say("names"), "a aa ab abcdefgh b names put z")
        self.assertEqual(Desk().say("names"), "")
        self.assertEqual(self.say("show names"), texts.PLAIN)

    def test_dropped(self):
        self.assertEqual(self.say("drop a"), "ok")
        self.assertEqual(self.say("names"), "b")
        self.refuse(NoName, "drop a")
        self.refuse(NoName, "show a")
        self.assertEqual(self.say("drop b"), "ok")
        self.assertEqual(self.say("names"), "")
        self.assertEqual(self.say("put a " + texts.FORK), "ok")
        self.assertEqual(self.say("report a"), "0 0 0 0 0")


class Put(Case):
    def test_texts(self):
        for text in texts.GOOD:
            self.assertEqual(self.say("put x " + text), "ok")
            self.assertEqual(self.say("show x"), text)
            self.assertEqual(self.say("counters x"), " ".join(map(str, plan_for(web_of(text), None)[0])))
            self.assertEqual(set(self.say("report x").split(" ")), {"0"})

    def test_refused_texts(self):
        self.refuse(NoText, "put a part", 1)
        self.refuse(NoText, "put x part a do b", 4)
        self.refuse(NoText, "put a x", 0)
        self.refuse(NoText, "put a part a do B end", 3)
        self.refuse(NoProgram, "put a part a end", 1)
        self.refuse(NoProgram, "put x part a call b end", 3)
        self.refuse(NoProgram, "put a part a do b end part c do d end", 6)
        for seed in range(60):
            text = texts.drawn_text(seed)
            for near in texts.near_texts(text, random.Random(seed)):
                found = texts.plain_looked(near)
                if found is None:
                    self.assertEqual(self.say("put x " + near), "ok")
                    self.assertEqual(self.say("show x"), near)
                else:
                    self.refuse({"text": NoText, "program": NoProgram}[found[0]], "put x " + near, found[1])

    def test_in_the_place_of_another(self):
        self.assertEqual(self.say("put a " + texts.ROUND), "ok")
        self.assertEqual(self.say("show a"), texts.ROUND)
        self.assertEqual(self.say("report a"), "0 0 0 0")
        self.assertEqual(self.say("names"), "a b")

    def test_the_same_again_begins_anew(self):
        self.say("guess a " + " ".join("1" if str(row) in self.say("counters a").split(" ") else "0"
                                       for row in range(4)))
        self.say("run a 0 9")
        self.assertEqual(self.say("put a " + texts.FORK), "ok")
        self.assertEqual(self.say("report a"), "0 0 0 0 0")
        # Guesses were those of what stood there.
        self.assertEqual(self.say("counters a"), " ".join(map(str, plan_for(web_of(texts.FORK), None)[0])))


class Guesses(Case):
    def test_a_cheapest_plan(self):
        for seed, text in enumerate(texts.GOOD + texts.drawn_programs(40)):
            draw = random.Random(seed)
            web = web_of(text)
            self.say("put x " + text)
            self.say("run x 1010 99")
            for most in (0, 1, 9, 10 ** 30 - 1):
                guesses = [draw.randint(0, most) for row in web[1]]
                self.assertEqual(self.say("guess x " + " ".join(map(str, guesses))), "ok")
                choice = [int(word) for word in self.say("counters x").split(" ")]
                self.assertEqual(cost(web, choice, guesses), cost(web, plan_for(web, guesses)[0], guesses))
                self.assertEqual(choice, plan_for(web, guesses)[0])
                self.assertEqual(set(self.say("report x").split(" ")), {"0"})
                self.assertEqual(self.say("show x"), text)

    def test_by_hand(self):
        self.assertEqual(self.say("guess a 0 9 9 9"), "ok")
        first = self.say("counters a").split(" ")
        self.assertIn("0", first)
        self.assertEqual(self.say("guess a 9 0 9 9"), "ok")
        self.assertIn("1", self.say("counters a").split(" "))
        self.assertEqual(self.say("report a"), "0 0 0 0 0")
        self.say("run a 1 9")
        self.assertEqual(self.say("report a"), "1 0 1 1 1")

    def test_numbers(self):
        for number in NUMBERS:
            self.assertEqual(self.say("guess a 1 " + number + " 0 3"), "ok")
        for number in NO_NUMBERS:
            for words in (["1", number, "0", "3"], [number, "1", "1", "1"], ["1", "1", "1", number]):
                self.refuse(NoGuess, "guess a " + " ".join(words))

    def test_as_many_as_rows(self):
        for count in (0, 1, 2, 3, 5, 6, 9, 40):
            self.refuse(NoGuess, " ".join(["guess a"] + ["1"] * count))
        self.assertEqual(self.say("guess a 1 1 1 1"), "ok")


class Runs(Case):
    def test_words(self):
        self.assertEqual(self.say("run a - 9"), "wanting")
        self.assertEqual(self.say("run a 1 9"), "ended")
        self.assertEqual(self.say("run a 10101010101 9"), "ended")
        self.assertEqual(self.say("run a 0 1"), "bound")
        self.assertEqual(self.say("run a 0 0"), "bound")
        self.assertEqual(self.say("run a - 0"), "bound")
        self.assertEqual(self.say("run a 0 " + "9" * 30), "ended")
        self.assertEqual(self.say("run b 11001 99"), walked(texts.CALLS, [1, 1, 0, 0, 1], 99)[1])

    def test_reports(self):
        for seed, text in enumerate(texts.GOOD + texts.drawn_programs(40)):
            draw = random.Random(seed)
            self.say("put x " + text)
            gone = []
            for again in range(8):
                answers = [draw.randint(0, 1) for answer in range(draw.choice([0, 1, 4, 10]))]
                bound = draw.choice([0, 1, 3, 9, 10 ** 30 - 1])
                rows, word, stack = walked(text, answers, bound)
                told = "".join(map(str, answers)) or "-"
                self.assertEqual(self.say("run x " + told + " " + str(bound)), word)
                gone.append(rows)
                counted = samples.plain_counts(texts.plain_web(text), gone)
                self.assertEqual(self.say("report x"), " ".join(map(str, counted)))

    def test_answers(self):
        for answers in NO_ANSWERS:
            self.refuse(NoAnswer, "run a " + answers + " 9")
            self.refuse(NoAnswer, "run b " + answers + " 0")

    def test_bounds(self):
        for bound in NUMBERS:
            self.assertIn(self.say("run a 1 " + bound), ("ended", "bound"))
        for bound in NO_NUMBERS:
            self.refuse(NoAnswer, "run a 1 " + bound)
            self.refuse(NoAnswer, "run a - " + bound)

    def test_long_answers(self):
        self.say("put x " + texts.ROUND)
        self.assertEqual(self.say("run x " + "1" * 3000 + " 99999"), "wanting")
        self.assertEqual(self.say("report x"), "3000 0 3000 1")


class Told(Case):
    def test_chains(self):
        self.assertEqual(self.say("chains a"), "1")
        self.assertEqual(self.say("chains b"), "1 2 3")
        for text in texts.GOOD + texts.drawn_programs(30):
            self.say("put x " + text)
            web = texts.plain_web(text)
            wanted = [len(samples.plain_chains(web, part)) for part in range(len(web[0]))]
            self.assertEqual(self.say("chains x"), " ".join(map(str, wanted)))
            self.assertEqual(chains(web), wanted)

    def test_ways(self):
        self.assertEqual(self.say("ways a a"), "2")
        for text in texts.GOOD + texts.drawn_programs(30):
            self.say("put x " + text)
            web = texts.plain_web(text)
            for part, (name, word, inner) in enumerate(texts.plain_tree(text)):
                rows = samples.plain_stretch_rows(web, part)[3]
                self.assertEqual(self.say("ways x " + name), str(len(samples.plain_ways(([web[0][part]], rows), 0))))

    def test_ways_of_parts_that_are_not_there(self):
        for part in ("main", "two", "one"):
            self.assertGreater(int(self.say("ways b " + part)), 0)
            self.refuse(NoName, "ways a " + part)
        for part in NO_NAMES + ["b", "x", "tw", "twoo", "0", "1"]:
            self.refuse(NoName, "ways b " + part)

    def test_rows(self):
        self.assertEqual(self.say("rows b"), "call:one yes:again no:again call:two call:one do:x call:two yes:y no:y do:z")
        for text in texts.GOOD + texts.drawn_programs(30):
            self.say("put x " + text)
            self.assertEqual(self.say("rows x"), " ".join(word + ":" + name for word, name, place
                                                          in texts.plain_rows(texts.plain_tree(text))))


class Kept(Case):
    def test_told_again_the_same(self):
        self.assertEqual(self.all_told(), self.all_told())

    def test_programs_are_on_their_own(self):
        self.say("put c " + texts.FORK)
        self.say("run c 0 9")
        self.assertEqual(self.say("report a"), "1 0 1 1 1")
        self.assertEqual(self.say("report c"), "0 1 0 1 1")
        self.say("drop a")
        self.assertEqual(self.say("report c"), "0 1 0 1 1")

    def test_desks_are_on_their_own(self):
        other = Desk()
        self.assertEqual(other.say("names"), "")
        other.say("put a " + texts.PLAIN)
        self.assertEqual(self.say("show a"), texts.FORK)

    def test_the_same_rows_tell_the_same(self):
        rows = RIGHT[2:] + ["run b 101 5", "report b", "guess b 1 2 3 4 5 6 7 8 9 10", "counters b", "run b - 5", "report b"]
        first = [Desk().say("put a " + texts.FORK)] + [self.say(row) for row in rows]
        self.setUp()
        again = [Desk().say("put a " + texts.FORK)] + [self.say(row) for row in rows]
        self.assertEqual(again, first)

    def test_arguments(self):
        self.assertEqual(self.desk.say(row="names"), "a b")


if __name__ == "__main__":
    unittest.main()
