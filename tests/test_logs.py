import copy
import random
import unittest

import samples
import texts
from fewcounters.errors import NoAnswer, NoLog, NoPlan, NoProgram, NoText
from fewcounters.finder import plan_for
from fewcounters.judge import judged
from fewcounters.logs import Log
from fewcounters.program_webs import web_of
from fewcounters.walks import walked

# What is read back has to be divided: part b begins twice or three times.
DIVIDED = "part a if x call b call b else call b call b call b end end part b do y end"
TEXTS = texts.GOOD + [DIVIDED]
OTHER = "part a if b do c else end do e end"
RUNS = [([1, 1, 0, 0, 1], 99), ([0, 0, 0, 0], 99), ([1, 1], 99), ([], 99), ([1, 0, 1, 1], 3), ([1], 0)]
NO_ANSWERS = [([2], 9), ([-1], 9), ([0, 1, 2], 9), ([], -1), ([1], -10 ** 29), ([10 ** 29], 0), ([True], 9),
              ([0, False], 9), ([], True)]


def plan_of(text, guesses=None):
    return plan_for(web_of(text), guesses)


def drawn_runs(draw, count):
    found = []
    while len(found) < count:
        answers = [draw.choice([0, 0, 1]) for answer in range(draw.choice([0, 1, 3, 8, 20]))]
        found.append((answers, draw.choice([0, 1, 2, 5, 9, 20, 10 ** 29])))
    return found


class Case(unittest.TestCase):
    def check(self, log, text, runs):
        """That the log tells what the walks of the runs tell."""
        walks = [walked(text, answers, bound) for answers, bound in runs]
        self.assertEqual(log.ended(), len([walk for walk in walks if walk[1] == "ended"]))
        self.assertEqual(log.report(), samples.plain_counts(texts.plain_web(text), [walk[0] for walk in walks]))

    def put(self, log, text, runs):
        for answers, bound in runs:
            self.assertEqual(log.put(list(answers), bound), walked(text, answers, bound)[1])


class Made(Case):
    def test_empty(self):
        for text in TEXTS:
            log = Log(text, plan_of(text))
            self.assertEqual(log.ended(), 0)
            self.assertEqual(log.report(), [0] * sum(map(len, web_of(text))))

    def test_texts_ahead_of_plans(self):
        for text, kind, word in [("", NoText, 0), ("part a do", NoText, 3), ("part a do x end x", NoText, 5),
                                 ("part a end", NoProgram, 1), ("part a do x back back end", NoProgram, 5)]:
            for plan in (plan_of(texts.PLAIN), (), ([], [], [], None)):
                with self.assertRaises(kind) as caught:
                    Log(text, plan)
                self.assertEqual(caught.exception.word, word)

    def refuse(self, text, plan):
        with self.assertRaises(NoPlan):
            Log(text, plan)

    def test_plans_of_other_texts(self):
        for text in TEXTS:
            for other in TEXTS:
                plan = plan_of(other)
                if judged(web_of(text), plan) is not None:
                    self.refuse(text, plan)
                else:
                    self.assertEqual(Log(text, plan).ended(), 0)

    def test_bent_plans(self):
        for text in TEXTS:
            guesses = [number % 3 for number in range(len(web_of(text)[1]))]
            for plan in (plan_of(text), plan_of(text, guesses)):
                choice, readings, pairs, told = plan
                self.refuse(text, ())
                self.refuse(text, plan[:3])
                self.refuse(text, plan + (None,))
                self.refuse(text, (choice + [0], readings, pairs, told))
                self.refuse(text, (choice[1:], readings, pairs, told))
                self.refuse(text, (tuple(choice), readings, pairs, told))
                self.refuse(text, (choice, readings[1:], pairs, told))
                self.refuse(text, (choice, readings + readings[:1], pairs, told))
                self.refuse(text, (choice, [(0,) + readings[0][1:]] + readings[1:], pairs, told))
                self.refuse(text, (choice, readings, pairs[1:], told))
                self.refuse(text, (choice, readings, [([], [])] + pairs[1:], told))
                self.refuse(text, (choice, readings, pairs, [-1] * len(guesses)))
                self.refuse(text, (choice, readings, pairs, []))

    def test_guesses_by_which_another_choice_is_cheaper(self):
        for text in (texts.FORK, texts.CALLS, texts.LEAVES):
            plan = plan_of(text)
            dear = [1 if number in plan[0] else 0 for number in range(len(web_of(text)[1]))]
            self.refuse(text, plan[:3] + (dear,))
            self.assertEqual(Log(text, plan[:3] + ([1 - number for number in dear],)).ended(), 0)


class Runs(Case):
    def test_words(self):
        log = Log(texts.CALLS, plan_of(texts.CALLS))
        self.assertEqual([log.put(answers, bound) for answers, bound in RUNS],
                         ["ended", "ended", "wanting", "wanting", "bound", "bound"])
        self.assertEqual(log.ended(), 2)

    def test_by_hand(self):
        log = Log(texts.ROUND, plan_of(texts.ROUND))
        self.assertEqual(log.put([1, 1, 0], 9), "ended")
        self.assertEqual(log.report(), [2, 1, 2, 1])
        self.assertEqual(log.put([1], 9), "wanting")
        self.assertEqual(log.report(), [3, 1, 3, 2])
        self.assertEqual(log.put([1, 1], 1), "bound")
        self.assertEqual(log.report(), [4, 1, 3, 3])
        self.assertEqual(log.put([], 0), "bound")
        self.assertEqual(log.report(), [4, 1, 3, 4])
        self.assertEqual(log.ended(), 1)

    def test_broken_off_within_a_called_part(self):
        text = "part a call b end part b call c do x end part c if y else end end"
        for bound in range(7):
            log = Log(text, plan_of(text))
            self.assertEqual(log.put([0], bound), walked(text, [0], bound)[1])
            self.check(log, text, [([0], bound)])
        log = Log(text, plan_of(text))
        self.put(log, text, [([0], bound) for bound in range(7)])
        self.check(log, text, [([0], bound) for bound in range(7)])

    def test_good_texts(self):
        for text in TEXTS:
            log = Log(text, plan_of(text))
            for count in range(len(RUNS)):
                self.put(log, text, RUNS[count:count + 1])
                self.check(log, text, RUNS[:count + 1])

    def test_drawn(self):
        broken = 0
        for seed, text in enumerate(texts.drawn_programs(200)):
            draw = random.Random(seed)
            guesses = [draw.randint(0, 9) for row in web_of(text)[1]] if seed % 2 else None
            log = Log(text, plan_of(text, guesses))
            runs = drawn_runs(draw, draw.randint(1, 8))
            for count in range(len(runs)):
                self.put(log, text, runs[count:count + 1])
                self.check(log, text, runs[:count + 1])
            broken += len(runs) - log.ended()
        self.assertGreater(broken, 200)

    def test_other_plans_that_the_judge_lets_by(self):
        # Readings and pairs of another hand: each reading three times as large, each pair turned round.
        for text in TEXTS:
            choice, readings, pairs, guesses = plan_of(text)
            larger = [(3 * whole, [3 * number for number in times], [3 * number for number in multipliers])
                      for whole, times, multipliers in readings]
            plan = (choice, larger, [(other, one) for one, other in pairs], None)
            log = Log(text, plan)
            self.put(log, text, RUNS)
            self.check(log, text, RUNS)

    def test_refused_runs_are_not_kept(self):
        for text in TEXTS:
            log = Log(text, plan_of(text))
            self.put(log, text, RUNS[:4])
            for answers, bound in NO_ANSWERS:
                with self.assertRaises(NoAnswer):
                    log.put(answers, bound)
                self.check(log, text, RUNS[:4])
            self.put(log, text, RUNS[4:])
            self.check(log, text, RUNS)

    def test_many_runs(self):
        log = Log(texts.CALLS, plan_of(texts.CALLS))
        self.put(log, texts.CALLS, RUNS * 200)
        self.check(log, texts.CALLS, RUNS * 200)


class Joined(Case):
    def test_all_is_added_and_the_other_stays(self):
        for text in TEXTS:
            for cut in range(len(RUNS) + 1):
                one = Log(text, plan_of(text))
                other = Log(text, plan_of(text))
                self.put(one, text, RUNS[:cut])
                self.put(other, text, RUNS[cut:])
                self.assertIsNone(one.join(other))
                self.check(one, text, RUNS)
                self.check(other, text, RUNS[cut:])
                # What is put behind is kept by the one to which it is put alone.
                self.put(one, text, RUNS[:1])
                self.check(other, text, RUNS[cut:])
                self.put(other, text, RUNS[2:4])
                self.check(one, text, RUNS + RUNS[:1])
                self.check(other, text, RUNS[cut:] + RUNS[2:4])

    def test_with_itself(self):
        for text in TEXTS:
            log = Log(text, plan_of(text))
            self.assertIsNone(log.join(log))
            self.check(log, text, [])
            self.put(log, text, RUNS)
            log.join(log)
            self.check(log, text, RUNS * 2)
            self.put(log, text, RUNS[3:5])
            log.join(log)
            self.check(log, text, RUNS * 4 + RUNS[3:5] * 2)

    def test_with_itself_again_and_again(self):
        log = Log(texts.CALLS, plan_of(texts.CALLS))
        self.put(log, texts.CALLS, RUNS)
        first = log.report()
        for again in range(90):
            log.join(log)
        self.assertEqual(log.ended(), 2 * 2 ** 90)
        self.assertEqual(log.report(), [number * 2 ** 90 for number in first])

    def test_one_another(self):
        one = Log(texts.LEAVES, plan_of(texts.LEAVES))
        other = Log(texts.LEAVES, plan_of(texts.LEAVES))
        self.put(one, texts.LEAVES, RUNS[:2])
        self.put(other, texts.LEAVES, RUNS[2:])
        one.join(other)
        other.join(one)
        one.join(other)
        self.check(other, texts.LEAVES, RUNS + RUNS[2:])
        self.check(one, texts.LEAVES, RUNS * 2 + RUNS[2:])

    def test_the_same_choice_by_other_readings_pairs_and_guesses(self):
        text = texts.CALLS
        plan = plan_of(text)
        choice, readings, pairs, guesses = plan
        larger = [(2 * whole, [2 * number for number in times], [2 * number for number in multipliers])
                  for whole, times, multipliers in readings]
        cheap = [0 if number in choice else 1 for number in range(len(web_of(text)[1]))]
        one = Log(text, plan)
        other = Log(text, (choice, larger, [(second, first) for first, second in pairs], cheap))
        self.put(one, text, RUNS[:3])
        self.put(other, text, RUNS[3:])
        one.join(other)
        self.check(one, text, RUNS)
        other.join(one)
        self.check(other, text, RUNS + RUNS[3:])

    def test_other_texts_and_choices_are_refused(self):
        text = texts.FORK
        web = web_of(text)
        plain = plan_of(text)
        dear = [1 if number in plain[0] else 0 for number in range(len(web[1]))]
        self.assertNotEqual(plan_of(text, dear)[0], plain[0])
        # The same web, and so the same choice, of another text.
        self.assertEqual(web_of(OTHER), web)
        for other_text, plan in ((text, plan_of(text, dear)), (OTHER, plain), (texts.ROUND, plan_of(texts.ROUND))):
            one = Log(text, plain)
            other = Log(other_text, plan)
            self.put(one, text, RUNS[:3])
            self.put(other, other_text, RUNS[2:])
            for first, second in ((one, other), (other, one)):
                with self.assertRaises(NoLog):
                    first.join(second)
            self.check(one, text, RUNS[:3])
            self.check(other, other_text, RUNS[2:])


class Kept(Case):
    def test_plans_changed_behind_change_no_answer(self):
        for text in TEXTS:
            for guesses in (None, [1] * len(web_of(text)[1])):
                plan = plan_of(text, guesses)
                before = copy.deepcopy(plan)
                log = Log(text, plan)
                self.put(log, text, RUNS[:3])
                self.assertEqual(plan, before)
                samples.spoil(plan)
                self.check(log, text, RUNS[:3])
                self.put(log, text, RUNS[3:])
                self.check(log, text, RUNS)
                # A log of the plan as it was is still one of the same choice.
                log.join(Log(text, before))
                self.check(log, text, RUNS)

    def test_plans_that_were_refused_are_not_changed(self):
        plan = plan_of(texts.FORK)[:3] + ([-1],)
        before = copy.deepcopy(plan)
        with self.assertRaises(NoPlan):
            Log(texts.FORK, plan)
        self.assertEqual(plan, before)

    def test_answers_are_not_changed_and_may_be(self):
        log = Log(texts.ROUND, plan_of(texts.ROUND))
        answers = [1, 0, 1]
        log.put(answers, 9)
        self.assertEqual(answers, [1, 0, 1])
        answers.clear()
        self.assertEqual(log.report(), [1, 1, 1, 1])

    def test_reports_are_the_askers_own(self):
        for text in TEXTS:
            log = Log(text, plan_of(text))
            self.put(log, text, RUNS)
            samples.check_kept(self, log.report)
            self.check(log, text, RUNS)

    def test_logs_are_on_their_own(self):
        plan = plan_of(texts.ROUND)
        one = Log(texts.ROUND, plan)
        other = Log(texts.ROUND, plan)
        self.put(one, texts.ROUND, RUNS)
        self.check(other, texts.ROUND, [])

    def test_arguments(self):
        log = Log(text=texts.PLAIN, plan=plan_of(texts.PLAIN))
        self.assertEqual(log.put(answers=[], bound=5), "ended")
        self.assertIsNone(log.join(other=Log(texts.PLAIN, plan_of(texts.PLAIN))))
        self.assertEqual((log.ended(), log.report()), (1, [1, 1]))


if __name__ == "__main__":
    unittest.main()
