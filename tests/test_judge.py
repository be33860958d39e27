import copy
import itertools
import random
import unittest

import samples
from fewcounters.errors import NoWeb
from fewcounters.finder import plan_for
from fewcounters.judge import judged

# A plan for CALLED_ROUND, written by hand: row 2 and both parts are read from rows 0, 1 and 3.
CHOICE = [0, 1, 3]
READINGS = [
    (1, [0, 1, 0], [0, 0, 0, 1, -1]),
    (1, [1, 1, 0], [1, 0, 0, 0, 0]),
    (1, [0, 1, 0], [0, 0, 0, 0, -1]),
]
PAIRS = [
    ([[0]], []),
    ([[1, 2]], []),
    ([[1, 3, 2]], [[1, 2]]),
]
GUESSES = [5, 2, 3, 0]

# Things of other kinds and forms, none of which is right anywhere in a plan.
OTHERS = [True, False, "", "x", 0.5, 1.0, {}, {0: True}, set(), object(), [None], (None,), [[None]], [{}], ([], [], [])]


def called_round_plan(guesses=GUESSES):
    return copy.deepcopy((CHOICE, READINGS, PAIRS, guesses))


def changed(value, path, new):
    """The value with another thing at a path of indexes, all else alike."""
    if not path:
        return new
    inner = list(value)
    inner[path[0]] = changed(inner[path[0]], path[1:], new)
    return tuple(inner) if isinstance(value, tuple) else inner


def at(value, path):
    for index in path:
        value = value[index]
    return value


def paths(value):
    """The paths to all that lies within a value."""
    if not isinstance(value, (list, tuple)):
        return []
    return [path for k, inner in enumerate(value) for path in [[k]] + [[k] + rest for rest in paths(inner)]]


def told_at(path):
    """What the judge tells of CALLED_ROUND's plan where a thing of another form stands at the path."""
    if path[0] == 0:
        return ("choice",)
    if path[0] == 1:
        return ("reading", [2, 4, 5][path[1]] if len(path) > 1 else 2)
    if path[0] == 2:
        return ("pair", CHOICE[path[1]] if len(path) > 1 else 0)
    return ("guess", -1, -1)


class Case(unittest.TestCase):
    def check(self, plan, told, web=samples.CALLED_ROUND):
        before = repr(plan)
        answer = judged(web, plan)
        self.assertEqual(answer, told, plan)
        self.assertEqual(repr(answer), repr(told))
        self.assertEqual(repr(plan), before)

    def check_changed(self, path, new, told):
        self.check(changed(called_round_plan(), path, new), told)


class NoWebs(unittest.TestCase):
    def test_ahead_of_all_else(self):
        for what, web in samples.no_webs():
            for plan in (None, (), called_round_plan(), ([0], [], [], None), 5):
                with self.subTest(what=what, plan=plan):
                    with self.assertRaises(NoWeb):
                        judged(web, plan)


class Right(Case):
    def test_one_row(self):
        for multipliers in ([1, 0], [0, -1], [2, 1], [10 ** 29 + 1, 10 ** 29]):
            self.check(([0], [(1, [1], multipliers)], [([[0]], [])], None), None, samples.LINE)
        self.check(([0], [(3, [3], [3, 0])], [([], [[0], [0]])], [7]), None, samples.LINE)
        self.check(([0], [(1, [1], [1, 0])], [([[0]], [])], [0]), None, samples.LINE)

    def test_with_guesses_and_without(self):
        self.check(called_round_plan(), None)
        self.check(called_round_plan(None), None)

    def test_guesses_that_are_alike_and_great_ones(self):
        for guesses in ([0] * 4, [9] * 4, [10 ** 30 - 1] * 4, [0, 0, 10 ** 30 - 1, 5], [10 ** 30 - 1, 7, 7, 10 ** 29]):
            self.check(called_round_plan(guesses), None)

    def test_pairs_turned_round_and_with_more_in_both(self):
        plan = (CHOICE, READINGS, [(other, one) for one, other in PAIRS], GUESSES)
        self.check(plan, None)
        plan = (CHOICE, READINGS, [(one + [[0], [1, 2]], [[1, 2], [0]] + other) for one, other in PAIRS], GUESSES)
        self.check(plan, None)

    def test_readings_that_are_divided(self):
        two_calls = [0, 5, 1, 5]
        three_calls = [2, 5, 3, 5, 4, 5]
        readings = [
            (1, [1, 0], [0, 0, 1, 0, 0, 0, 0, 0]),
            (3, [-2, 1], [0, 0, -1, 2, 1, 1, 0, 1]),
            (3, [-2, 1], [0, 0, -1, -1, 1, 1, 0, 1]),
            (3, [-2, 1], [0, 0, -1, -1, -2, 1, 0, 1]),
            (3, [1, 1], [0, -3, -1, -1, -2, 1, 0, 1]),
            (1, [0, 1], [0, 0, 0, 0, 0, 1, 0, 0]),
        ]
        pairs = [([two_calls] * 3, [three_calls] * 2), ([three_calls], [])]
        self.check(([1, 5], readings, pairs, None), None, samples.DIVIDED)
        self.check(([1, 5], readings, pairs, [1, 1, 9, 9, 9, 9]), None, samples.DIVIDED)
        self.check(([1, 5], readings, pairs, [9, 1, 9, 0, 9, 9]), ("guess", 1, 3), samples.DIVIDED)
        self.check(([1, 5], readings, [pairs[1], pairs[0]], None), ("pair", 1), samples.DIVIDED)
        readings[1] = (1,) + readings[1][1:]
        self.check(([1, 5], readings, pairs, None), ("reading", 2), samples.DIVIDED)


class Choices(Case):
    def test_no_tuple_of_four_things(self):
        plan = called_round_plan()
        for other in (None, True, 0, 5, "", "abcd", 0.5, [], (), {}, {0: 1}, set(), object(), list(plan), plan[:3],
                      plan[:1], plan + (None,), plan + plan, (plan,), [plan], (plan, None, None, None)):
            with self.subTest(other):
                self.check(other, ("choice",))

    def test_no_choice(self):
        for other in samples.no_choices(samples.CALLED_ROUND):
            with self.subTest(other):
                self.check_changed([0], other, ("choice",))

    def test_no_choice_in_the_place_of_a_like_one(self):
        plan = ([0], [(1, [1], [1, 0])], [([[0]], [])], None)
        self.check(plan, None, samples.LINE)
        for other in ([False], [0, 0], (0,), [0.0], [-1], [1], [-2]):
            self.check(changed(plan, [0], other), ("choice",), samples.LINE)
        for other in ([0, 3, 1], [3, 1, 0], [0, 1, 1, 3], [0, True, 3], [0, 1, -1], (0, 1, 3)):
            self.check_changed([0], other, ("choice",))

    def test_told_ahead_of_all_else(self):
        self.check(([1, 0], None, None, 5), ("choice",))
        self.check((None, [], [], []), ("choice",))


class Readings(Case):
    def test_no_list(self):
        for other in [None, tuple(READINGS), 5] + OTHERS:
            self.check_changed([1], other, ("reading", 2))

    def test_too_few(self):
        self.check_changed([1], [], ("reading", 2))
        self.check_changed([1], READINGS[:1], ("reading", 4))
        self.check_changed([1], READINGS[:2], ("reading", 5))

    def test_too_many(self):
        for more in (READINGS[2], None, (), (1, [0, 0, 0], [0] * 5)):
            self.check_changed([1], READINGS + [more], ("reading", 6))
        self.check_changed([1], READINGS + READINGS, ("reading", 6))

    def test_too_many_is_told_behind_the_others(self):
        self.check_changed([1], READINGS[:2] + [None, READINGS[2]], ("reading", 5))
        self.check_changed([1], READINGS[:2] + [READINGS[1], READINGS[2]], ("reading", 5))

    def test_in_another_order(self):
        self.check_changed([1], [READINGS[1], READINGS[0], READINGS[2]], ("reading", 2))
        self.check_changed([1], [READINGS[0], READINGS[2], READINGS[1]], ("reading", 4))

    def test_no_tuple_of_three_things(self):
        for place, told in enumerate((2, 4, 5)):
            reading = READINGS[place]
            for other in [None, list(reading), reading[:2], reading + (0,), (), 5] + OTHERS:
                self.check_changed([1, place], other, ("reading", told))

    def test_whole_is_from_1_on(self):
        for other in (0, -1, 2, 10 ** 29):
            self.check_changed([1, 0, 0], other, ("reading", 2))
        self.check_changed([1, 1], (0, [0, 0, 0], [0] * 5), ("reading", 4))
        self.check_changed([1, 1], (-1, [-1, -1, 0], [-1, 0, 0, 0, 0]), ("reading", 4))
        self.check_changed([1, 1], (2, [2, 2, 0], [2, 0, 0, 0, 0]), None)

    def test_lists_of_another_length(self):
        for place, told in enumerate((2, 4, 5)):
            for inner in (1, 2):
                numbers = READINGS[place][inner]
                for other in ([], numbers[:-1], numbers[1:], numbers + [0], [0] + numbers, numbers + numbers,
                              tuple(numbers), None, [numbers]):
                    self.check_changed([1, place, inner], other, ("reading", told))

    def test_each_number_counts(self):
        for path in paths(called_round_plan()):
            if path[0] == 1 and len(path) > 2 and not isinstance(at(called_round_plan(), path), list):
                for more in (1, -1, 10 ** 29):
                    number = at(called_round_plan(), path) + more
                    self.check_changed(path, number, told_at(path))

    def test_counts_that_are_not_chosen_are_0(self):
        # Relation 1 is relation 0 turned round: together they are nothing, each alone is something at count 4.
        self.check_changed([1, 0, 2], [1, 1, 0, 1, -1], None)
        self.check_changed([1, 0, 2], [1, 0, 0, 1, -1], ("reading", 2))
        self.check_changed([1, 2], (1, [1, 2, 0], [1, 0, 0, 0, -1]), ("reading", 5))
        self.check_changed([1, 2], (1, [0, 0, 0], [0, 0, 1, 0, 0]), ("reading", 5))

    def test_a_choice_that_is_not_enough_has_no_right_readings(self):
        for choice in ([], [0], [3], [0, 3], [0, 1], [1, 2], [1, 2, 3]):
            plan = (choice, [(1, [0] * len(choice), [0] * 5)] * (6 - len(choice)), [([], [])] * len(choice), None)
            first = [count for count in range(6) if count not in choice][0]
            self.check(plan, ("reading", first))

    def test_of_no_choice_at_all(self):
        self.check(([], [], [], None), ("reading", 0))
        self.check(([], None, None, None), ("reading", 0))


class Pairs(Case):
    def test_no_list(self):
        for other in [None, tuple(PAIRS), 5] + OTHERS:
            self.check_changed([2], other, ("pair", 0))

    def test_too_few(self):
        self.check_changed([2], [], ("pair", 0))
        self.check_changed([2], PAIRS[:1], ("pair", 1))
        self.check_changed([2], PAIRS[:2], ("pair", 3))

    def test_too_many(self):
        for more in (PAIRS[2], None, (), ([], [])):
            self.check_changed([2], PAIRS + [more], ("pair", -1))
        self.check_changed([2], PAIRS + PAIRS, ("pair", -1))

    def test_too_many_is_told_behind_the_others(self):
        self.check_changed([2], PAIRS[:2] + [None, PAIRS[2]], ("pair", 3))

    def test_in_another_order(self):
        self.check_changed([2], [PAIRS[1], PAIRS[0], PAIRS[2]], ("pair", 0))
        self.check_changed([2], [PAIRS[0], PAIRS[2], PAIRS[1]], ("pair", 1))

    def test_no_tuple_of_two_things(self):
        for place, told in enumerate(CHOICE):
            pair = PAIRS[place]
            for other in [None, list(pair), pair[:1], pair + ([],), (), 5] + OTHERS:
                self.check_changed([2, place], other, ("pair", told))

    def test_no_heaps(self):
        for place, told in enumerate(CHOICE):
            for inner in (0, 1):
                for other in [None, (), ([0],), [[]], [[1]], [[2]], [[0, 0]], [[0], []], [[-1]], [[4]], [[0], [1]],
                              [(0,)], [[False]], [0], [[0], 0], [[10 ** 29]], [[-4]]] + OTHERS:
                    self.check_changed([2, place, inner], other, ("pair", told))

    def test_alike_at_its_row(self):
        self.check_changed([2, 0], ([], []), ("pair", 0))
        self.check_changed([2, 0], ([[0]], [[0]]), ("pair", 0))
        self.check_changed([2, 1], ([[1, 2], [0]], [[0], [1, 2]]), ("pair", 1))

    def test_unlike_at_another_chosen_row(self):
        self.check_changed([2, 0], ([[0]], [[1, 2]]), ("pair", 0))
        self.check_changed([2, 0], ([[0], [1, 2]], []), ("pair", 0))
        self.check_changed([2, 1], ([[1, 3, 2]], []), ("pair", 1))
        self.check_changed([2, 2], ([[1, 3, 2]], []), ("pair", 3))

    def test_unlike_at_another_chosen_row_alone(self):
        self.check_changed([2, 2], ([[0]], []), ("pair", 3))
        self.check_changed([2, 0], ([[1, 3, 2]], [[1, 2]]), ("pair", 0))

    def test_a_choice_of_more_than_is_needed_has_no_right_pairs(self):
        # Rows 1 and 2 have the same counts in every heap.
        choice = [0, 1, 2, 3]
        readings = [(1, [1, 1, 0, 0], [1, 0, 0, 0, 0]), (1, [0, 1, 0, 0], [0, 0, 0, 0, -1])]
        self.check((choice, readings, [PAIRS[0], PAIRS[1], PAIRS[1], PAIRS[2]], None), ("pair", 1))
        for runs in samples.plain_runs(samples.CALLED_ROUND, 5):
            self.check((choice, readings, [PAIRS[0], ([runs], []), PAIRS[1], PAIRS[2]], None), ("pair", 1))


class Guesses(Case):
    def test_no_guesses(self):
        for other in samples.no_guesses(samples.CALLED_ROUND) + OTHERS:
            with self.subTest(other):
                self.check_changed([3], other, ("guess", -1, -1))

    def test_no_guesses_is_told_ahead_of_dear_rows(self):
        self.check_changed([3], [5, 4, 3, -1], ("guess", -1, -1))

    def test_a_row_that_is_cheaper(self):
        self.check_changed([3], [5, 4, 3, 0], ("guess", 1, 2))
        self.check_changed([3], [0, 1, 0, 0], ("guess", 1, 2))
        self.check_changed([3], [0, 10 ** 30 - 1, 10 ** 30 - 2, 0], ("guess", 1, 2))
        self.check_changed([3], [0, 3, 3, 9], None)

    def test_the_first_chosen_row_with_its_first_row(self):
        # ROUND_APART: rows 1 and 4 are alike, and rows 2 and 3; rows 0, 3 and 4 are chosen.
        readings = [
            (1, [0, 0, 1], [0, 0, 1, 1]),
            (1, [0, 1, 0], [0, 0, 0, 1]),
            (1, [1, 0, 1], [0, -1, 0, 0]),
        ]
        pairs = [
            ([[0]], []),
            ([[1, 2, 3, 4]], [[1, 4]]),
            ([[1, 4]], []),
        ]
        web = samples.ROUND_APART
        self.check(([0, 3, 4], readings, pairs, None), None, web)
        for guesses, told in (
            ([9, 1, 1, 1, 1], None),
            ([9, 1, 0, 1, 1], ("guess", 3, 2)),
            ([9, 0, 1, 1, 1], ("guess", 4, 1)),
            ([0, 0, 0, 1, 1], ("guess", 3, 2)),
            ([0, 0, 1, 1, 1], ("guess", 4, 1)),
            ([0, 5, 5, 1, 1], None),
        ):
            self.check(([0, 3, 4], readings, pairs, guesses), told, web)
        # The pair of row 2 is unlike at row 0 and not at row 1.
        web = ([3], [(0, 0, 2, -1), (0, 0, 2, -1), (0, 2, 1, -1)])
        readings = [
            (1, [-1, 1], [0, 0, 1]),
            (1, [0, 1], [0, -1, 0]),
        ]
        pairs = [([[1, 2]], [[0, 2]]), ([[0, 2]], [])]
        self.check(([1, 2], readings, pairs, None), None, web)
        for guesses, told in (
            ([5, 5, 5], None),
            ([4, 5, 5], ("guess", 1, 0)),
            ([4, 4, 5], ("guess", 2, 0)),
            ([5, 0, 4], None),
            ([3, 5, 4], ("guess", 1, 0)),
        ):
            self.check(([1, 2], readings, pairs, guesses), told, web)

    def test_of_several_rows_that_are_cheaper_the_first(self):
        # DEEP: all of rows 0 to 3 are alike; row 3 is chosen beside row 4.
        plan = plan_for(samples.DEEP, [4, 3, 2, 1, 0])
        self.assertEqual(plan[0], [3, 4])
        for guesses, told in (
            ([4, 3, 2, 1, 0], None),
            ([1, 1, 1, 1, 0], None),
            ([5, 0, 0, 1, 0], ("guess", 3, 1)),
            ([0, 0, 0, 1, 0], ("guess", 3, 0)),
            ([5, 5, 0, 1, 0], ("guess", 3, 2)),
        ):
            self.check(plan[:3] + (guesses,), told, samples.DEEP)


class Forms(Case):
    def test_other_things_at_every_place(self):
        plan = called_round_plan()
        for path in paths(plan):
            others = list(OTHERS)
            if path != [3]:
                others += [None]
            if isinstance(at(plan, path), int):
                others += [[at(plan, path)], (at(plan, path),), float(at(plan, path)), str(at(plan, path))]
            else:
                others += [0, 1, -1, 10 ** 29]
            for other in others:
                with self.subTest(path=path, other=other):
                    self.check_changed(path, other, told_at(path))

    def test_a_truth_that_is_equal_to_the_number(self):
        found = 0
        for path in paths(called_round_plan()):
            number = at(called_round_plan(), path)
            if isinstance(number, int) and number in (0, 1):
                found += 1
                self.check_changed(path, bool(number), told_at(path))
        self.assertGreater(found, 20)

    def test_the_first_wrong_thing_is_told(self):
        """Of any two places at which something is wrong the one that the judge comes to first is told."""
        plan = called_round_plan()
        wrong = [path for path in paths(plan) if path[0] == 0 or isinstance(at(plan, path), int) or len(path) < 3]
        order = [("choice",), ("reading", 2), ("reading", 4), ("reading", 5), ("pair", 0), ("pair", 1), ("pair", 3),
                 ("guess", -1, -1)]
        for one, other in itertools.combinations(wrong, 2):
            if other[:len(one)] != one:
                both = changed(changed(plan, other, "x"), one, "x")
                self.check(both, min(told_at(one), told_at(other), key=order.index))

    def test_too_many_readings_ahead_of_pairs_and_too_many_pairs_ahead_of_guesses(self):
        plan = called_round_plan()
        many = changed(plan, [1], READINGS + [READINGS[2]])
        self.check(changed(many, [2], None), ("reading", 6))
        self.check(changed(many, [3], 5), ("reading", 6))
        many = changed(plan, [2], PAIRS + [PAIRS[2]])
        self.check(changed(many, [3], 5), ("pair", -1))
        self.check(changed(many, [3], [5, 4, 3, 0]), ("pair", -1))

    def test_a_guess_that_is_wrong_does_not_hide_a_pair(self):
        self.check(changed(called_round_plan([5, 4, 3, 0]), [2, 2], None), ("pair", 3))
        self.check(changed(called_round_plan([5, 4, 3, 0]), [1, 2], None), ("reading", 5))


class WhatIsLetByIsRight(unittest.TestCase):
    def test_a_choice_is_let_by_just_where_no_enough_one_is_cheaper(self):
        for web in samples.CHOSEN_FROM:
            draw = random.Random(3)
            enough = samples.enough_choices(web)
            least = [choice for choice in enough if len(choice) == samples.plain_least(web)]
            self.assertEqual(min(len(choice) for choice in enough), samples.plain_least(web))
            for choice in least:
                plan = plan_for(web, [0 if row in choice else 1 for row in range(len(web[1]))])
                self.assertEqual(plan[0], choice)
                for again in range(12):
                    guesses = [draw.choice([0, 1, 2, 3, 10 ** 30 - 1]) for row in web[1]]
                    costs = [sum(guesses[row] for row in other) for other in enough]
                    told = judged(web, plan[:3] + (guesses,))
                    if sum(guesses[row] for row in choice) == min(costs):
                        self.assertIsNone(told)
                    else:
                        self.assertEqual(told[0], "guess")
                        self.assertIn(told[1], choice)
                        self.assertLess(guesses[told[2]], guesses[told[1]])

    def test_plans_of_other_choices_are_not_let_by(self):
        for web in samples.CHOSEN_FROM:
            plan = plan_for(web, None)
            self.assertIsNone(judged(web, plan))
            for choice in samples.all_choices(web):
                if choice != plan[0]:
                    self.assertIsNotNone(judged(web, (choice,) + plan[1:]))

    def test_counts_come_back_by_what_is_let_by(self):
        for web in samples.CHOSEN_FROM:
            plan = plan_for(web, None)
            unread = [count for count in range(len(web[1]) + len(web[0])) if count not in plan[0]]
            for numbers in samples.many_counts(web):
                for count, (whole, times, multipliers) in zip(unread, plan[1], strict=True):
                    total = sum(a * numbers[row] for a, row in zip(times, plan[0], strict=True))
                    self.assertEqual(divmod(total, whole), (numbers[count], 0))


class Kept(unittest.TestCase):
    def fresh(self):
        return ([2, 2], list(samples.CALLED_ROUND[1]))

    def test_nothing_handed_in_is_changed_and_all_told_is_new(self):
        for path, new in (
            ([3], GUESSES), ([3], None), ([0], [0, 0]), ([1], []), ([1], READINGS + READINGS), ([2], []),
            ([2], PAIRS + PAIRS), ([3], [1]), ([3], [5, 4, 3, 0]),
        ):
            samples.check_kept(self, judged, self.fresh(), changed(called_round_plan(), path, copy.deepcopy(new)))

    def test_a_plan_that_is_changed_behind_is_looked_at_anew(self):
        web = self.fresh()
        plan = called_round_plan()
        self.assertIsNone(judged(web, plan))
        plan[2][1][0].append([0])
        self.assertEqual(judged(web, plan), ("pair", 1))
        plan[1].pop()
        self.assertEqual(judged(web, plan), ("reading", 5))
        web[1].append((1, 0, 1, -1))
        self.assertEqual(judged(web, called_round_plan()), ("reading", 2))
        self.assertIsNone(judged(self.fresh(), called_round_plan()))


if __name__ == "__main__":
    unittest.main()
