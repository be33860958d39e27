import copy
import random
import unittest

import samples
from fewcounters.errors import NoChoice, NoGuess, NoWeb
from fewcounters.finder import cost, is_enough, plan_for, twins
from fewcounters.judge import judged
from fewcounters.webs import is_run

MOST = 10 ** 30 - 1


def drawn_guesses(web, draw):
    """Guesses of several sorts: noughts and thirty figures among others, many alike, all alike, all unlike."""
    return [
        [0] * len(web[1]),
        [MOST] * len(web[1]),
        [draw.choice([0, MOST]) for row in web[1]],
        [draw.randrange(3) for row in web[1]],
        [draw.randrange(10 ** 30) for row in web[1]],
        draw.sample(range(len(web[1])), len(web[1])),
        [10 ** 29 + draw.randrange(2) for row in web[1]],
    ]


def plain_cost(choice, guesses):
    return sum(guesses[row] for row in choice)


class Case(unittest.TestCase):
    def check_heap(self, web, heap):
        self.assertIsInstance(heap, list)
        for run in heap:
            self.assertIsInstance(run, list)
            self.assertIs(is_run(web, run), True)

    def check_plan(self, web, guesses):
        plan = plan_for(web, copy.deepcopy(guesses))
        self.assertIs(type(plan), tuple)
        self.assertEqual(len(plan), 4)
        self.assertEqual(plan[3], guesses)
        self.assertEqual(len(plan[0]), samples.plain_least(web))
        self.assertIsNone(judged(web, plan))
        return plan


class NoWebs(unittest.TestCase):
    def test_ahead_of_all_else(self):
        for what, web in samples.no_webs():
            with self.subTest(what):
                for guesses in (None, [], [1], [-1], 5, [0] * len(web[1])):
                    with self.assertRaises(NoWeb):
                        plan_for(web, guesses)
                    for choice in ([], [0], [1, 0], None, 5):
                        with self.assertRaises(NoWeb):
                            cost(web, choice, guesses)
                for choice in ([], [0], [1, 0], [-1], [99], None, 5, "x"):
                    with self.assertRaises(NoWeb):
                        is_enough(web, choice)
                    with self.assertRaises(NoWeb):
                        twins(web, choice)


class PlanFor(Case):
    def test_one_row(self):
        for guesses in (None, [0], [5], [MOST]):
            plan = self.check_plan(samples.LINE, guesses)
            self.assertEqual(plan[0], [0])

    def test_named_webs(self):
        for web in samples.CHOSEN_FROM + [samples.FAR_APART]:
            self.check_plan(web, None)
            for guesses in drawn_guesses(web, random.Random(1)):
                self.check_plan(web, guesses)

    def test_drawn_webs_of_one_to_four_parts(self):
        parts = {}
        for seed in range(70):
            web = samples.drawn_web(seed)
            parts[len(web[0])] = True
            self.check_plan(web, None)
            for guesses in drawn_guesses(web, random.Random(seed)):
                self.check_plan(web, guesses)
        self.assertEqual(sorted(parts), [1, 2, 3, 4])

    def test_drawn_webs_with_many_calls(self):
        for seed in range(40):
            web = samples.calling_web(seed)
            self.check_plan(web, None)
            self.check_plan(web, drawn_guesses(web, random.Random(seed))[4])

    def test_no_enough_choice_is_smaller(self):
        for web in samples.CHOSEN_FROM:
            enough = samples.enough_choices(web)
            for guesses in [None] + drawn_guesses(web, random.Random(2)):
                choice = plan_for(web, guesses)[0]
                self.assertIn(choice, enough)
                self.assertEqual(len(choice), min(len(other) for other in enough))

    def test_no_enough_choice_is_cheaper(self):
        for web in samples.CHOSEN_FROM:
            enough = samples.enough_choices(web)
            for seed in range(8):
                for guesses in drawn_guesses(web, random.Random(seed)):
                    choice = plan_for(web, guesses)[0]
                    least = min(plain_cost(other, guesses) for other in enough)
                    self.assertEqual(plain_cost(choice, guesses), least)

    def test_each_least_choice_is_told_where_it_is_cheapest(self):
        for web in samples.CHOSEN_FROM:
            for choice in samples.enough_choices(web):
                if len(choice) == samples.plain_least(web):
                    guesses = [MOST - 1 if row in choice else MOST for row in range(len(web[1]))]
                    self.assertEqual(self.check_plan(web, guesses)[0], choice)

    def test_rows_that_differ_by_one_in_thirty_figures(self):
        # Rows 0 to 3 of DEEP are alike in every heap: the cheapest of them is chosen, beside row 4.
        for cheap in range(4):
            guesses = [MOST] * 5
            guesses[cheap] = MOST - 1
            self.assertEqual(plan_for(samples.DEEP, guesses)[0], [cheap, 4])

    def test_calls_deep_and_heaps_large(self):
        web = samples.FAR_APART
        for rows in ([0, 3, 10], [3, 9, 10], [3, 4, 12], [0, 3, 12], [3, 9, 12]):
            guesses = [0 if row in rows else 1 for row in range(len(web[1]))]
            self.assertEqual(self.check_plan(web, guesses)[0], rows)

    def test_most_rows_and_places(self):
        self.check_plan(samples.line_web(16, 30), None)
        self.check_plan(samples.line_web(2, 30), list(range(30)))
        self.check_plan(samples.line_web(16, 60), [MOST - k for k in range(60)])

    def test_what_are_no_guesses(self):
        for web in (samples.LINE, samples.NESTED):
            for guesses in samples.no_guesses(web):
                with self.subTest(guesses):
                    with self.assertRaises(NoGuess):
                        plan_for(web, guesses)


class Cost(Case):
    def test_all_choices(self):
        for web in samples.CHOSEN_FROM:
            for guesses in drawn_guesses(web, random.Random(4)):
                for choice in samples.all_choices(web):
                    self.assertEqual(cost(web, choice, guesses), plain_cost(choice, guesses))

    def test_by_hand(self):
        self.assertEqual(cost(samples.LOOPS, [], [1, 2, 3, 4, 5]), 0)
        self.assertEqual(cost(samples.LOOPS, [1, 4], [1, 2, 3, 4, 5]), 7)
        self.assertEqual(cost(samples.LOOPS, [0, 1, 2, 3, 4], [MOST] * 5), 5 * MOST)
        self.assertIs(type(cost(samples.LINE, [], [0])), int)

    def test_what_is_no_choice(self):
        for web in (samples.LINE, samples.NESTED):
            for choice in samples.no_choices(web):
                with self.subTest(choice):
                    with self.assertRaises(NoChoice):
                        cost(web, choice, [1] * len(web[1]))

    def test_what_are_no_guesses(self):
        for web in (samples.LINE, samples.NESTED):
            for guesses in samples.no_guesses(web) + [None]:
                for choice in ([], [0]):
                    with self.subTest(guesses):
                        with self.assertRaises(NoGuess):
                            cost(web, choice, guesses)

    def test_no_choice_ahead_of_no_guess(self):
        web = samples.NESTED
        for choice in samples.no_choices(web):
            for guesses in samples.no_guesses(web) + [None]:
                with self.assertRaises(NoChoice):
                    cost(web, choice, guesses)


class IsEnough(Case):
    def test_all_choices(self):
        for web in samples.CHOSEN_FROM:
            enough = samples.enough_choices(web)
            for choice in samples.all_choices(web):
                self.assertIs(is_enough(web, choice), choice in enough)

    def test_by_hand(self):
        self.assertIs(is_enough(samples.LINE, []), False)
        self.assertIs(is_enough(samples.LINE, [0]), True)
        self.assertIs(is_enough(samples.CALLED_ROUND, [0, 1, 3]), True)
        self.assertIs(is_enough(samples.CALLED_ROUND, [0, 2, 3]), True)
        self.assertIs(is_enough(samples.CALLED_ROUND, [0, 1, 2, 3]), True)
        self.assertIs(is_enough(samples.CALLED_ROUND, [1, 2, 3]), False)
        self.assertIs(is_enough(samples.CALLED_ROUND, [0, 1, 2]), False)

    def test_just_where_no_two_small_heaps_are_alike(self):
        for web in samples.SMALL:
            known = sorted(samples.plain_heap_counts(web, 3))
            for choice in samples.all_choices(web):
                alike = {tuple(numbers[row] for row in choice) for numbers in known}
                self.assertIs(is_enough(web, choice), len(alike) == len(known))

    def test_all_rows_are_enough_and_none_are_not(self):
        for seed in range(40):
            web = samples.drawn_web(seed)
            self.assertIs(is_enough(web, list(range(len(web[1])))), True)
            self.assertIs(is_enough(web, []), False)

    def test_a_plan_with_a_row_less_is_not_enough_and_with_one_more_is(self):
        for seed in range(25):
            web = samples.drawn_web(seed)
            choice = plan_for(web, None)[0]
            self.assertIs(is_enough(web, choice), True)
            for row in range(len(web[1])):
                if row in choice:
                    self.assertIs(is_enough(web, [other for other in choice if other != row]), False)
                else:
                    self.assertIs(is_enough(web, sorted(choice + [row])), True)

    def test_what_is_no_choice(self):
        for web in (samples.LINE, samples.NESTED):
            for choice in samples.no_choices(web):
                with self.subTest(choice):
                    with self.assertRaises(NoChoice):
                        is_enough(web, choice)


class Twins(Case):
    def check_twins(self, web, choice):
        told = twins(web, choice)
        self.assertIs(type(told), tuple)
        self.assertEqual(len(told), 2)
        for heap in told:
            self.check_heap(web, heap)
        one = samples.plain_counts(web, told[0])
        other = samples.plain_counts(web, told[1])
        self.assertEqual([one[row] for row in choice], [other[row] for row in choice])
        self.assertNotEqual(one[:len(web[1])], other[:len(web[1])])

    def test_all_choices(self):
        for web in samples.CHOSEN_FROM:
            enough = samples.enough_choices(web)
            for choice in samples.all_choices(web):
                if choice in enough:
                    self.assertIsNone(twins(web, choice))
                else:
                    self.check_twins(web, choice)

    def test_drawn_choices(self):
        for seed in range(60):
            web = samples.drawn_web(seed) if seed % 2 else samples.calling_web(seed)
            draw = random.Random(seed)
            for size in range(samples.plain_least(web)):
                self.check_twins(web, sorted(draw.sample(range(len(web[1])), size)))

    def test_large_choices_that_are_not_enough(self):
        for seed in range(30):
            web = samples.calling_web(seed)
            for row in plan_for(web, None)[0]:
                choice = [other for other in range(len(web[1])) if other != row]
                if not is_enough(web, choice):
                    self.check_twins(web, choice)
                    self.check_twins(web, choice[1:])

    def test_calls_deep_and_heaps_large(self):
        for choice in ([12], [3, 12], [3, 4], [0, 9, 12], [10, 12], [3, 9]):
            web = samples.FAR_APART
            if is_enough(web, choice):
                self.assertIsNone(twins(web, choice))
            else:
                self.check_twins(web, choice)

    def test_what_is_no_choice(self):
        for web in (samples.LINE, samples.NESTED):
            for choice in samples.no_choices(web):
                with self.subTest(choice):
                    with self.assertRaises(NoChoice):
                        twins(web, choice)


class Kept(unittest.TestCase):
    def fresh(self):
        return ([3, 3, 2], list(samples.NESTED[1]))

    def test_nothing_handed_in_is_changed_and_all_told_is_new(self):
        samples.check_kept(self, plan_for, self.fresh(), None)
        samples.check_kept(self, plan_for, self.fresh(), [3, 0, MOST, 1, 1, 2, 5, 8])
        samples.check_kept(self, cost, self.fresh(), [0, 2, 7], [3, 0, MOST, 1, 1, 2, 5, 8])
        samples.check_kept(self, is_enough, self.fresh(), [0, 2, 7])
        samples.check_kept(self, is_enough, self.fresh(), [0, 1, 2, 3, 4, 5, 6, 7])
        samples.check_kept(self, twins, self.fresh(), [0, 2, 7])
        samples.check_kept(self, twins, self.fresh(), [])
        samples.check_kept(self, twins, self.fresh(), [0, 1, 2, 3, 4, 5, 6, 7])

    def test_one_run_several_times_is_lists_of_their_own(self):
        for web in samples.CHOSEN_FROM + [samples.FAR_APART]:
            plan = plan_for(web, None)
            inner = [id(part) for part in samples.parts_of(plan)]
            self.assertEqual(len(inner), len(set(inner)))

    def test_guesses_changed_behind_change_no_plan(self):
        guesses = [1] * 5
        plan = plan_for(samples.LOOPS, guesses)
        guesses[0] = 7
        self.assertEqual(plan[3], [1] * 5)
        plan[3][1] = 9
        self.assertEqual(guesses, [7, 1, 1, 1, 1])

    def test_a_plan_that_is_changed_changes_no_later_one(self):
        for web in samples.CHOSEN_FROM:
            first = plan_for(web, None)
            kept = copy.deepcopy(first)
            samples.spoil(first)
            self.assertEqual(plan_for(web, None), kept)
            self.assertIsNone(judged(web, plan_for(web, None)))

    def test_refusals_change_nothing(self):
        web = self.fresh()
        guesses = [1] * 7
        choice = [3, 1]
        with self.assertRaises(NoGuess):
            plan_for(web, guesses)
        with self.assertRaises(NoChoice):
            cost(web, choice, guesses)
        with self.assertRaises(NoChoice):
            twins(web, choice)
        self.assertEqual((web, guesses, choice), (self.fresh(), [1] * 7, [3, 1]))

    def test_a_web_that_is_changed_behind_is_looked_at_anew(self):
        web = ([2], [(0, 0, 1, -1)])
        plan = plan_for(web, None)
        self.assertIs(is_enough(web, [0]), True)
        web[1].append((0, 0, 1, -1))
        self.assertEqual(plan, ([0], plan[1], [([[0]], [])], None))
        self.assertIs(is_enough(web, [0]), False)
        self.assertEqual(plan_for(web, None)[0], [0, 1])


if __name__ == "__main__":
    unittest.main()
