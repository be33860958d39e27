import copy
import itertools
import random
import unittest

import machines
import samples
from fewcounters.errors import NoAnswer, NoCode
from fewcounters.machine import begun, look_code, run_code, step

FIRST = (0, [(-1, 0, 0)], [], [], 0, [], 0, 0)


class Case(unittest.TestCase):
    def refuse(self, code, place):
        """That each function refuses what is no code with its first wrong tuple, ahead of answers and bounds."""
        before = copy.deepcopy(code)
        for answers, bound in (([], 5), ([2], 5), ([], -1)):
            for function, more in ((look_code, ()), (step, (begun(), answers, bound)), (run_code, (answers, bound))):
                with self.assertRaises(NoCode) as caught:
                    function(code, *more)
                self.assertEqual(caught.exception.place, place, code)
        self.assertEqual(code, before)

    def go(self, code, answers=(), bound=100):
        """The states of a code from the first on, by step, and the word at which it stands still."""
        states = [begun()]
        while True:
            told = step(code, states[-1], list(answers), bound)
            if isinstance(told, str):
                self.assertEqual(run_code(code, list(answers), bound), (told, states[-1]))
                return states, told
            states.append(told)


class Codes(Case):
    def test_none_is_told_of_codes(self):
        self.assertIsNone(look_code(machines.ALL_KINDS))
        self.assertIsNone(look_code([("back",)]))
        for size in (1, 2, 5):
            for told in machines.right_tuples(size):
                for place in range(size):
                    code = [("back",)] * size
                    code[place] = told
                    self.assertIsNone(look_code(code), code)

    def test_an_empty_list(self):
        self.refuse([], 0)

    def test_what_is_no_tuple_of_a_code(self):
        for size in (1, 3):
            for wrong in machines.wrong_things(size):
                for place in range(size):
                    code = [("back",)] * size
                    code[place] = wrong
                    self.refuse(code, place)

    def test_the_first_wrong_one(self):
        draw = random.Random(4)
        for again in range(400):
            size = draw.randint(2, 9)
            first = draw.randrange(size)
            code = [draw.choice(machines.right_tuples(size)) for place in range(first)]
            code.append(draw.choice(machines.wrong_things(size)))
            while len(code) < size:
                code.append(draw.choice(machines.wrong_things(size) + machines.right_tuples(size)))
            self.refuse(code, first)

    def test_to_is_the_number_of_a_tuple_of_this_code(self):
        for told in (("jump", 2), ("ask", 0, 0, 2), ("call", 0, 2, 0)):
            self.assertIsNone(look_code([told, ("back",), ("back",)]))
            self.refuse([("back",), told], 1)

    def test_all_short_tuples(self):
        # Each tuple of up to four of these things, beside those that may stand in a code of two.
        things = ["row", "ask", "jump", "call", "back", "count", "add", "tell", 0, 1, 2, -1, True, None]
        right = {tuple(map(repr, told)) for told in self.right_of_two()}
        for count in range(5):
            for told in itertools.product(things, repeat=count):
                try:
                    look_code([told, ("back",)])
                    found = True
                except NoCode as refusal:
                    self.assertEqual(refusal.place, 0)
                    found = False
                self.assertEqual(found, tuple(map(repr, told)) in right, told)

    def right_of_two(self):
        choices = {"r": [0, 1, 2], "t": [0, 1], "n": [0, 1, 2, -1]}
        return [(kind,) + numbers for kind, form in machines.KINDS.items()
                for numbers in itertools.product(*[choices[letter] for letter in form])]


class Answers(unittest.TestCase):
    def test_refused_as_walks_refuse_them(self):
        for code in (machines.ALL_KINDS, [("back",)], [("jump", 0)]):
            for answers in ([2], [-1], [0, 1, 2], [10 ** 29], [0] * 50 + [-10 ** 29], [True], [0, False]):
                for bound in (0, 5, -1):
                    self.refuse(code, answers, bound)
            for bound in (-1, -10 ** 29, 1 - 10 ** 30, True, False):
                self.refuse(code, [], bound)
                self.refuse(code, [0, 1], bound)

    def refuse(self, code, answers, bound):
        with self.assertRaises(NoAnswer):
            step(code, begun(), answers, bound)
        with self.assertRaises(NoAnswer):
            run_code(code, answers, bound)


class Begun(unittest.TestCase):
    def test_the_first_state(self):
        self.assertEqual(begun(), FIRST)
        self.assertIsInstance(begun(), tuple)
        samples.check_kept(self, begun)


class Steps(Case):
    def after(self, code, answers=(), bound=100, count=1):
        """The state behind so many tuples."""
        return self.go(code, answers, bound)[0][count]

    def test_row(self):
        self.assertEqual(self.after([("row", 8), ("back",)]), (1, [(-1, 0, 0)], [], [], 0, [8], 0, 0))
        self.assertEqual(self.after([("row", 8), ("row", 8), ("back",)], count=2),
                         (2, [(-1, 0, 0)], [], [], 0, [8, 8], 0, 0))

    def test_ask(self):
        code = [("ask", 5, 6, 2), ("back",), ("back",)]
        self.assertEqual(self.after(code, [1]), (1, [(-1, 0, 0)], [], [], 0, [5], 1, 0))
        self.assertEqual(self.after(code, [0]), (2, [(-1, 0, 0)], [], [], 0, [6], 1, 0))
        code = [("ask", 5, 6, 0), ("jump", 0)]
        self.assertEqual(self.after(code, [0, 0, 1, 0], count=3), (1, [(-1, 0, 0)], [], [], 0, [6, 6, 5], 3, 0))

    def test_jump(self):
        self.assertEqual(self.after([("jump", 2), ("row", 0), ("back",)]), (2, [(-1, 0, 0)], [], [], 0, [], 0, 1))

    def test_call_and_back(self):
        code = [("call", 4, 2, 7), ("back",), ("call", 5, 3, -9), ("back",)]
        states, word = self.go(code)
        self.assertEqual(word, "ended")
        self.assertEqual(states, [
            FIRST,
            (2, [(-1, 0, 0), (1, 0, 0)], [], [], 7, [4], 0, 0),
            (3, [(-1, 0, 0), (1, 0, 0), (3, 0, 7)], [], [], -2, [4, 5], 0, 0),
            (3, [(-1, 0, 0), (1, 0, 0)], [], [], 7, [4, 5], 0, 1),
            (1, [(-1, 0, 0)], [], [], 0, [4, 5], 0, 2),
        ])

    def test_count(self):
        code = [("count", 9), ("count", 2), ("count", 9), ("count", 0), ("back",)]
        states, word = self.go(code)
        self.assertEqual([state[2] for state in states],
                         [[], [(9, 1)], [(2, 1), (9, 1)], [(2, 1), (9, 2)], [(0, 1), (2, 1), (9, 2)]])
        self.assertEqual([state[7] for state in states], [0, 1, 2, 3, 4])

    def test_boxes_rise_by_number(self):
        code = [("count", box) for box in (10, 9, 100, 10 ** 29, 11)] + [("back",)]
        self.assertEqual(run_code(code, [], 0)[1][2], [(9, 1), (10, 1), (11, 1), (100, 1), (10 ** 29, 1)])

    def test_add_and_tell(self):
        code = [("add", 5), ("add", -8), ("tell", 3, 40), ("add", 2), ("tell", 0, 0), ("back",)]
        states, word = self.go(code)
        self.assertEqual([state[1] for state in states],
                         [[(-1, 0, 0)], [(-1, 5, 0)], [(-1, -3, 0)], [(-1, 40, 0)], [(-1, 42, 0)], [(-1, 0, 0)]])
        self.assertEqual(states[-1][3], [(3, 0, -3), (0, 0, 42)])

    def test_each_frame_has_its_own_sum_and_chain(self):
        code = [("add", 1), ("call", 0, 4, 6), ("tell", 0, 0), ("back",), ("add", 10), ("call", 1, 8, 7),
                ("tell", 1, 3), ("back",), ("add", 100), ("tell", 2, 5), ("back",)]
        states, word = self.go(code)
        self.assertEqual(states[-1][3], [(2, 13, 100), (1, 6, 10), (0, 0, 1)])
        self.assertIn((9, [(-1, 1, 0), (2, 10, 0), (6, 100, 6)], [], [], 13, [0, 1], 0, 1), states)
        self.assertEqual(states[-1][4], 0)

    def test_numbers_of_thirty_figures(self):
        great = 10 ** 30 - 1
        code = [("call", great, 3, great), ("tell", great, -great), ("back",), ("count", great), ("add", -great),
                ("call", 0, 7, great), ("back",), ("tell", 0, great), ("back",)]
        word, state = run_code(code, [], great)
        self.assertEqual((word, state), ("ended", (2, [(-1, -great, 0)], [(great, 1)],
                                                   [(0, 2 * great, 0), (great, 0, 0)], 0, [great, 0], 0, 4)))


class StandsStill(Case):
    def test_ended(self):
        self.assertEqual(self.go([("back",)]), ([FIRST], "ended"))
        self.assertEqual(run_code([("back",)], [], 0), ("ended", FIRST))
        self.assertEqual(run_code([("row", 1), ("back",)], [], 1)[0], "ended")

    def test_bound(self):
        for told in (("row", 1), ("ask", 1, 1, 1), ("call", 1, 1, 0)):
            self.assertEqual(run_code([told, ("back",)], [1], 0), ("bound", FIRST))
            self.assertEqual(run_code([told, ("jump", 0)], [1] * 9, 3)[0], "bound")
            self.assertEqual(len(run_code([told, ("jump", 0)], [1] * 9, 3)[1][5]), 3)
            self.assertEqual(len(run_code([told, ("jump", 0)], [0] * 9, 3)[1][5]), 3)

    def test_bound_ahead_of_wanting(self):
        code = [("row", 0), ("ask", 1, 2, 2), ("back",)]
        self.assertEqual(run_code(code, [], 1)[0], "bound")
        self.assertEqual(run_code(code, [], 2)[0], "wanting")
        self.assertEqual(run_code(code, [], 0)[0], "bound")

    def test_other_tuples_go_on_at_the_bound(self):
        code = [("row", 0), ("count", 1), ("add", 4), ("tell", 5, 6), ("jump", 5), ("back",)]
        self.assertEqual(run_code(code, [], 1), ("ended", (5, [(-1, 6, 0)], [(1, 1)], [(5, 0, 4)], 0, [0], 0, 4)))
        code = [("call", 0, 2, 3), ("row", 1), ("back",)]
        self.assertEqual(run_code(code, [], 1), ("bound", (1, [(-1, 0, 0)], [], [], 0, [0], 0, 1)))

    def test_wanting(self):
        code = [("ask", 0, 1, 0), ("jump", 0)]
        self.assertEqual(run_code(code, [], 10 ** 29), ("wanting", FIRST))
        word, state = run_code(code, [1, 0, 1], 9)
        self.assertEqual((word, state[5], state[6]), ("wanting", [0, 1, 0], 3))

    def test_astray_behind_the_last_tuple(self):
        self.assertEqual(run_code([("row", 3)], [], 9), ("astray", (1, [(-1, 0, 0)], [], [], 0, [3], 0, 0)))
        # Ahead of the bound: the machine stands at no tuple.
        self.assertEqual(run_code([("row", 3)], [], 1)[0], "astray")
        self.assertEqual(run_code([("row", 3)], [], 0)[0], "bound")
        for told in (("count", 0), ("add", 1), ("tell", 0, 0)):
            self.assertEqual(run_code([told], [], 0)[0], "astray")
        # A call that stands last is come back from behind the code.
        self.assertEqual(run_code([("ask", 0, 0, 2), ("back",), ("call", 1, 1, 5)], [0], 9),
                         ("astray", (3, [(-1, 0, 0)], [], [], 0, [0, 1], 1, 1)))

    def test_astray_behind_a_thousand_tuples(self):
        self.assertEqual(run_code([("jump", 0)], [], 9), ("astray", (0, [(-1, 0, 0)], [], [], 0, [], 0, 1000)))
        self.assertEqual(run_code([("row", 7), ("jump", 1)], [], 9),
                         ("astray", (1, [(-1, 0, 0)], [], [], 0, [7], 0, 1000)))
        word, state = run_code([("count", 0), ("add", 2), ("tell", 1, 0), ("jump", 0)], [], 0)
        self.assertEqual((word, state[0], state[2], len(state[3]), state[7]), ("astray", 0, [(0, 250)], 250, 1000))

    def test_a_thousand_tuples_ahead_of_all_else(self):
        for told, word in ((("row", 0), "bound"), (("ask", 0, 0, 0), "bound"), (("call", 0, 0, 0), "bound"),
                           (("back",), "ended")):
            self.assertEqual(run_code([("add", 1)] * 999 + [told], [], 0)[0], word)
            self.assertEqual(run_code([("add", 1)] * 1000 + [told], [], 0)[0], "astray")
            self.assertEqual(run_code([("add", 1)] * 1000 + [told], [], 0)[1][7], 1000)
        self.assertEqual(run_code([("add", 1)] * 999 + [("ask", 0, 0, 0)], [], 1)[0], "wanting")
        self.assertEqual(run_code([("add", 1)] * 1000 + [("ask", 0, 0, 0)], [], 1)[0], "astray")

    def test_rows_begin_the_thousand_anew(self):
        idle = [("count", 0)] * 999
        for told in (("row", 0), ("ask", 0, 0, 1000), ("call", 0, 1000, 0)):
            code = idle + [told] + idle + [("row", 1), ("jump", 0)]
            word, state = run_code(code, [0, 1], 5)
            self.assertEqual((word, state[5]), ("astray", [0, 1]))
            self.assertEqual(state[7], 1000)
            self.assertEqual(state[2], [(0, 999 + 999 + 999)])

    def test_what_is_gone_back_is_no_row(self):
        code = [("call", 0, 2, 0), ("jump", 0), ("back",)]
        self.assertEqual(run_code(code, [], 40)[0], "bound")
        # Backs count for the thousand too.
        code = [("call", 0, 1, 0), ("back",)] + [("back",)]
        states, word = self.go(code)
        self.assertEqual([state[7] for state in states], [0, 0, 1])
        self.assertEqual(word, "ended")

    def test_a_smaller_bound_or_fewer_answers_behind(self):
        code = [("ask", 0, 1, 0), ("jump", 0)]
        state = run_code(code, [1, 1, 1], 9)[1]
        for bound in (0, 1, 2, 3):
            self.assertEqual(step(code, state, [1, 1, 1, 1], bound), "bound")
        for answers in ([], [1], [1, 1], [1, 1, 1]):
            self.assertEqual(step(code, state, answers, 9), "wanting")


class Drawn(Case):
    def test_state_by_state(self):
        words = []
        for seed in range(1500):
            code = machines.drawn_code(seed)
            draw = random.Random(seed)
            answers = [draw.randint(0, 1) for answer in range(draw.choice([0, 2, 10]))]
            bound = draw.choice([0, 1, 3, 10, 25])
            states, word = machines.plain_states(code, answers, bound)
            self.assertEqual(run_code(code, answers, bound), (word, states[-1]), code)
            for state, following in zip(states[:60], states[1:]):
                self.assertEqual(step(code, state, answers, bound), following)
            self.assertEqual(step(code, states[-1], answers, bound), word)
            words.append(word)
        for word in ("astray", "bound", "wanting", "ended"):
            self.assertGreater(words.count(word), 100, word)

    def test_all_kinds_in_one_code(self):
        for count in range(6):
            for answers in itertools.product([0, 1], repeat=count):
                for bound in range(9):
                    states, word = self.go(machines.ALL_KINDS, answers, bound)
                    self.assertEqual((states, word), machines.plain_states(machines.ALL_KINDS, answers, bound))

    def test_long_runs(self):
        word, state = run_code([("ask", 0, 1, 3), ("count", 5), ("jump", 0), ("back",)], [1] * 20000 + [0], 10 ** 29)
        self.assertEqual((word, state[2], state[6]), ("ended", [(5, 20000)], 20001))
        word, state = run_code([("call", 0, 0, 1)], [], 5000)
        self.assertEqual((word, len(state[1]), state[4]), ("bound", 5001, 5000))


class Kept(unittest.TestCase):
    def test_nothing_handed_in_is_changed_and_all_told_is_new(self):
        for code in [machines.ALL_KINDS] + [machines.drawn_code(seed) for seed in range(80)]:
            for answers in ([], [1, 0, 1, 1]):
                samples.check_kept(self, run_code, list(code), list(answers), 6)
                samples.check_kept(self, look_code, list(code))
                states, word = machines.plain_states(code, answers, 6)
                for state in states[:12] + states[-1:]:
                    samples.check_kept(self, step, list(code), copy.deepcopy(state), list(answers), 6)

    def test_told_states_may_be_changed(self):
        code = list(machines.ALL_KINDS)
        one = step(code, begun(), [1], 9)
        other = step(code, one, [1], 9)
        before = copy.deepcopy(other)
        samples.spoil(one)
        self.assertEqual(other, before)
        self.assertEqual(begun(), FIRST)

    def test_arguments(self):
        self.assertIsNone(look_code(code=[("back",)]))
        self.assertEqual(step(code=[("jump", 0)], state=begun(), answers=[], bound=0)[7], 1)
        self.assertEqual(run_code(code=[("back",)], answers=[], bound=0), ("ended", FIRST))


if __name__ == "__main__":
    unittest.main()
