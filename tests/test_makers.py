import itertools
import random
import unittest

import machines
import samples
import texts
from fewcounters.errors import NoChoice, NoProgram, NoText
from fewcounters.machine import begun, look_code, run_code, step
from fewcounters.makers import chained_code, counted_code, numbered_code, plain_code
from fewcounters.program_webs import web_of
from fewcounters.stretching import stretch_web, stretches
from fewcounters.walks import walked
from fewcounters.ways import steps

# Cuts that call, calls that lead to a part's end, a cut to a part's begin, and stretches that begin behind a cut.
CUT_CALLS = ("part a while x call b end end part b do y while z if v call c else call c end end call c end "
             "part c while w end end")
# A round within a round, both left from within, in a part that is called from two places.
ROUNDS = ("part a if x call b else end while y call b end do z end "
          "part b do p while q while r if s leave else end do t end if u leave else end end end")
# The most rows in a line of calls, ending at once in all parts.
TAILS = "part a do x call b end part b call c end part c do y call d end part d while z do v end end"
TEXTS = texts.GOOD + [CUT_CALLS, ROUNDS, TAILS]


def walks_of(text, draw, count):
    """(answers, bound) drawn for a text."""
    found = [([], 0), ([], 10 ** 29), ([1], 1)]
    while len(found) < count:
        answers = [draw.choice([0, 0, 1, 1, 1]) for answer in range(draw.choice([1, 4, 12, 40]))]
        found.append((answers, draw.choice([1, 2, 3, 5, 8, 13, 30, 10 ** 29])))
    return found


def drawn_choice(web, draw):
    return [number for number in range(len(web[1])) if draw.random() < 0.5]


def adds(code):
    return [told for told in code if told[0] == "add"]


class Case(unittest.TestCase):
    def go(self, text, code, answers, bound):
        """The state in which the code's machine stands still, which goes as the walk goes."""
        self.assertIsNone(look_code(code))
        rows, word, stack = walked(text, answers, bound)
        told, state = run_code(code, answers, bound)
        self.assertEqual((told, state[5]), (word, rows), (text, answers, bound))
        self.assertEqual((rows, word), texts.plain_walk(text, answers, bound))
        return state

    def check(self, text, answers, bound, choice):
        web = texts.plain_web(text)
        state = self.go(text, plain_code(text), answers, bound)
        self.assertEqual((state[2], state[3], state[4]), ([], [], 0))
        self.assertEqual([frame[1:] for frame in state[1]], [(0, 0)] * len(state[1]))
        state = self.go(text, counted_code(text, choice), answers, bound)
        gone = [(number, state[5].count(number)) for number in choice if number in state[5]]
        self.assertEqual((state[2], state[3], state[4]), (gone, [], 0))
        state = self.go(text, numbered_code(text), answers, bound)
        self.assertEqual((state[2], state[3], state[4]), ([], machines.plain_numbers_told(web, state[5]), 0),
                         (text, answers, bound))
        state = self.go(text, chained_code(text), answers, bound)
        self.assertEqual((state[2], state[3]), ([], machines.plain_chains_told(web, state[5])))
        self.check_chain(web, state)
        return state

    def check_chain(self, web, state):
        """That the chain is the number of the chain to the innermost part under way."""
        stack = [(0, 0, [])]
        for number in state[5]:
            part, place, chain = stack.pop()
            stack.append((part, web[1][number][2], chain))
            if web[1][number][3] >= 0:
                stack.append((web[1][number][3], 0, chain + [number]))
            while len(stack) > 1 and stack[-1][1] == 1:
                stack.pop()
        # Part 0 stays, with its first frame, when it is ended.
        self.assertEqual([self.chain_at(web, entry) for entry in stack[:-1]] + [state[4]],
                         [frame[2] for frame in state[1][1:]] + [self.chain_at(web, stack[-1])])

    def chain_at(self, web, entry):
        return machines.plain_chain_number(web, entry[0], entry[2])


class Refused(unittest.TestCase):
    def test_texts_ahead_of_all_else(self):
        for text, kind, word in [("", NoText, 0), ("part a do", NoText, 3), ("part a do x end x", NoText, 5),
                                 ("part a end", NoProgram, 1), ("part a do x back back end", NoProgram, 5),
                                 ("part a call b end", NoProgram, 3)]:
            for function, more in [(plain_code, ()), (numbered_code, ()), (chained_code, ()), (counted_code, ([0],)),
                                   (counted_code, ([-1],)), (counted_code, (None,))]:
                with self.assertRaises(kind) as caught:
                    function(text, *more)
                self.assertEqual(caught.exception.word, word)

    def test_what_is_no_choice(self):
        for text in texts.GOOD:
            for choice in samples.no_choices(web_of(text)):
                with self.assertRaises(NoChoice):
                    counted_code(text, choice)


class ByHand(Case):
    def told(self, code, answers, bound=99):
        return run_code(code, answers, bound)[1]

    def test_counted(self):
        text = "part a while x call b end end part b if y do z else end end"
        code = counted_code(text, [0, 2, 4, 5])
        self.assertEqual(self.told(code, [1, 1, 1, 0, 0])[2], [(0, 2), (2, 2), (4, 1), (5, 1)])
        self.assertEqual(self.told(code, [0])[2], [])
        # A call is counted as soon as it is gone through, and not where the bound keeps one from it.
        self.assertEqual(self.told(code, [1])[2], [(0, 1), (2, 1)])
        self.assertEqual(self.told(code, [1, 1], 2)[2], [(0, 1), (2, 1)])
        self.assertEqual(self.told(code, [1, 1], 1)[2], [(0, 1)])
        self.assertEqual(self.told(code, [1, 1], 0)[2], [])
        self.assertEqual(self.told(counted_code(text, []), [1, 1, 1, 0, 0])[2], [])

    def test_numbered(self):
        # The while's round is cut behind its do: stretches x-yes to the cut, and then the same or x-no.
        text = "part a while x do y end end"
        code = numbered_code(text)
        self.assertEqual(stretches(web_of(text), 0, [0, 2, 0, 2, 1]), [0, 0, 1])
        self.assertEqual(self.told(code, [1, 1, 0])[3], [(0, 0, 0), (0, 0, 0), (0, 0, 1)])
        self.assertEqual(self.told(code, [1, 1])[3], [(0, 0, 0), (0, 0, 0)])
        self.assertEqual(self.told(code, [1, 1], 3)[3], [(0, 0, 0)])

    def test_numbered_where_a_cut_calls(self):
        text = "part a while x call b end end part b do y end"
        code = numbered_code(text)
        self.assertEqual(self.told(code, [1, 0])[3], [(1, 0, 0), (0, 0, 0), (0, 0, 1)])
        # Within the called part both stretches are under way; when it ended, both have ended.
        self.assertEqual(self.told(code, [1, 0], 2)[3], [])
        self.assertEqual(self.told(code, [1, 0], 3)[3], [(1, 0, 0), (0, 0, 0)])

    def test_numbered_where_the_last_row_calls(self):
        code = numbered_code("part a if x do y else end call b end part b if z else end end")
        self.assertEqual(self.told(code, [0, 0])[3], [(1, 0, 1), (0, 0, 1)])
        self.assertEqual(self.told(code, [1, 0])[3], [(1, 0, 1), (0, 0, 0)])
        self.assertEqual(self.told(code, [1])[3], [])

    def test_chained(self):
        text = "part a call b call c call b end part b call c end part c do x end"
        code = chained_code(text)
        self.assertEqual(self.told(code, [])[3], [(2, 1, 0), (1, 0, 0), (2, 0, 0), (2, 2, 0), (1, 1, 0), (0, 0, 0)])
        chains = [step_state[4] for step_state in self.states(code, [])]
        self.assertEqual([chain for chain, group in itertools.groupby(chains)], [0, 1, 0, 1, 2, 1, 0])
        self.assertEqual(self.told(code, [], 2)[4], 1)
        self.assertEqual(self.told(code, [], 1)[4], 0)

    def states(self, code, answers):
        found = [begun()]
        while not isinstance(found[-1], str):
            found.append(step(code, found[-1], answers, 99))
        return found[:-1]


class LikeTheWalk(Case):
    def test_all_short_answers(self):
        for text in TEXTS:
            draw = random.Random(text)
            web = texts.plain_web(text)
            for count in range(4):
                for answers in itertools.product([0, 1], repeat=count):
                    for bound in (0, 1, 2, 3, 5, 9, 40):
                        self.check(text, list(answers), bound, drawn_choice(web, draw))

    def test_drawn(self):
        words = []
        for seed, text in enumerate(texts.drawn_programs(250)):
            draw = random.Random(seed)
            web = texts.plain_web(text)
            for answers, bound in walks_of(text, draw, 7):
                self.check(text, answers, bound, drawn_choice(web, draw))
                words.append(walked(text, answers, bound)[1])
        for word in ("ended", "bound", "wanting"):
            self.assertGreater(words.count(word), 100)

    def test_small_programs(self):
        checked = 0
        for words in texts.programs_of(12):
            text = " ".join(words)
            if texts.plain_looked(text) is None:
                checked += 1
                for answers, bound in (([], 9), ([1, 1, 0, 1], 9), ([0, 1, 0, 0], 9), ([1, 0, 1], 2)):
                    self.check(text, answers, bound, [0])
        self.assertGreater(checked, 50)

    def test_each_bound(self):
        for text in TEXTS + texts.drawn_programs(40):
            draw = random.Random(text)
            answers = [draw.randint(0, 1) for answer in range(15)]
            web = texts.plain_web(text)
            for bound in range(len(walked(text, answers, 40)[0]) + 2):
                self.check(text, answers, bound, list(range(len(web[1]))))

    def test_the_most_rows_and_places(self):
        line = "part a " + "do x " * 13 + "while y do z end end"
        forks = "part a " + "if x else end " * 15 + "end"
        calls = "part a " + "call b " * 9 + "end part b " + "call c " * 9 + "end part c do x end"
        rounds = "part a while x " + "while y do z end " * 6 + "end do v end"
        for text in (line, forks, calls, rounds):
            draw = random.Random(text)
            for answers, bound in walks_of(text, draw, 12) + [([1, 0] * 40, 10 ** 29)]:
                self.check(text, answers, bound, drawn_choice(texts.plain_web(text), draw))

    def test_never_astray_on_long_ways_without_rows(self):
        # As many lists as there can be end behind the last row, and as many leaves and backs stand between rows.
        deep = "part a " + "if x " * 13 + "do y " + "else end " * 13 + "do z end"
        leaves = "part a " + "while x if y leave else " * 7 + "do z " + "end end " * 7 + "end"
        tails = "part a do x call b end part b call c end part c call d end part d " + "if x " * 12 + "back " \
            + "else end " * 12 + "end"
        for text in (deep, leaves, tails):
            for answers in ([1] * 30, [0] * 30, [1, 0] * 15, [1] * 14 + [0] * 14):
                self.check(text, answers, 10 ** 29, [0])

    def test_long_runs(self):
        state = self.check(texts.CALLS, [1] * 3000 + [0] * 20, 10 ** 29, [0, 1, 4])
        self.assertGreater(len(state[5]), 3000)


class StateByState(Case):
    def test_the_chain_and_what_is_counted_at_each_state(self):
        for text in TEXTS + texts.drawn_programs(30):
            draw = random.Random(text)
            web = texts.plain_web(text)
            answers = [draw.randint(0, 1) for answer in range(6)]
            for code, chained in ((plain_code(text), False), (counted_code(text, [0]), False),
                                  (numbered_code(text), False), (chained_code(text), True)):
                state = begun()
                for again in range(120):
                    under_way = self.under_way(web, state)
                    wanted = machines.plain_chain_number(web, *under_way) if chained else 0
                    self.assertEqual(state[4], wanted)
                    told = step(code, state, answers, 25)
                    if isinstance(told, str):
                        break
                    state = told

    def under_way(self, web, state):
        """(part, chain) of the innermost frame: the frames were made by the last calls not yet come back from."""
        open_calls = []
        stack = [(0, 0)]
        for number in state[5]:
            row = web[1][number]
            # Parts at their end are left when the next row is gone through, and perhaps earlier.
            while stack[-1] != row[:2]:
                stack.pop()
                open_calls.pop()
            stack[-1] = (row[0], row[2])
            if row[3] >= 0:
                stack.append((row[3], 0))
                open_calls.append(number)
        chain = open_calls[:len(state[1]) - 1]
        return (web[1][chain[-1]][3] if chain else 0, chain)


class Adds(unittest.TestCase):
    def test_no_more_than_steps_that_are_not_0(self):
        for text in TEXTS + texts.drawn_programs(300):
            web = web_of(text)
            most = 0
            for part in range(len(web[0])):
                most += len([number for number in steps(stretch_web(web, part), 0) if number != 0])
            self.assertLessEqual(len(adds(numbered_code(text))), most, text)

    def test_others_have_none(self):
        for text in TEXTS:
            for code in (plain_code(text), counted_code(text, [0]), chained_code(text)):
                self.assertEqual(adds(code), [])


class Kept(unittest.TestCase):
    def test_nothing_handed_in_is_changed_and_all_told_is_new(self):
        for text in TEXTS:
            samples.check_kept(self, plain_code, text)
            samples.check_kept(self, numbered_code, text)
            samples.check_kept(self, chained_code, text)
            for choice in ([], [0], list(range(len(web_of(text)[1])))):
                samples.check_kept(self, counted_code, text, choice)

    def test_arguments(self):
        text = texts.PLAIN
        self.assertEqual(plain_code(text=text), plain_code(text))
        self.assertEqual(counted_code(text=text, choice=[0]), counted_code(text, [0]))
        self.assertEqual(numbered_code(text=text), numbered_code(text))
        self.assertEqual(chained_code(text=text), chained_code(text))


if __name__ == "__main__":
    unittest.main()
