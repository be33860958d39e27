import random
import unittest

import samples
from fewcounters.elimination import moved_by, rounds_through, runs_through, solved
from fewcounters.heaps import are_counts, relations


def webs():
    return samples.CHOSEN_FROM + [samples.FAR_APART] + [samples.drawn_web(seed) for seed in range(15)] + [
        samples.calling_web(seed) for seed in range(15)]


def relation_sums(web, numbers):
    return [sum(a * b for a, b in zip(relation, numbers, strict=True)) for relation in relations(web)]


class Solved(unittest.TestCase):
    def test_by_hand(self):
        lines, left = solved([[2, 4, 6], [1, 2, 5]], [0, 1, 2])
        self.assertEqual(sorted(lines), [0, 2])
        self.assertEqual(left, [1])
        for count in lines:
            whole = lines[count][count]
            self.assertGreater(whole, 0)
            self.assertEqual([lines[count][other] for other in (0, 1, 2)],
                             [whole, 2 * whole, 0] if count == 0 else [0, 0, whole])

    def test_lines_are_sums_of_relations_and_solved_for_one_count_alone(self):
        for web in webs():
            known = relations(web)
            size = len(known[0])
            for seed in range(3):
                order = random.Random(seed).sample(range(size), size - seed)
                lines, left = solved(known, order)
                self.assertEqual(sorted(list(lines) + left), sorted(order))
                for count in lines:
                    line = lines[count]
                    self.assertEqual(len(line), size + len(known))
                    for place in range(size):
                        total = sum(a * relation[place] for a, relation in zip(line[size:], known, strict=True))
                        self.assertEqual(total, line[place])
                    self.assertGreater(line[count], 0)
                    self.assertEqual([line[other] for other in lines if other != count], [0] * (len(lines) - 1))

    def test_what_stands_ahead_is_solved_for_where_it_can_be(self):
        for web in webs():
            known = relations(web)
            order = random.Random(7).sample(range(len(known[0])), len(known[0]))
            left = solved(known, order)[1]
            for place, count in enumerate(order):
                columns = [[relation[other] for other in order[:place + 1]] for relation in known]
                grown = samples.plain_rank(columns) - samples.plain_rank([numbers[:-1] for numbers in columns])
                self.assertEqual(count in left, grown == 0)

    def test_relations_stay(self):
        known = relations(samples.NESTED)
        solved(known, list(range(11)))
        self.assertEqual(known, relations(samples.NESTED))


class MovedBy(unittest.TestCase):
    def test_even_and_0_at_all_others_that_are_left(self):
        for web in webs():
            known = relations(web)
            size = len(known[0])
            order = random.Random(9).sample(range(size), size)
            lines, left = solved(known, order)
            for count in left:
                numbers = moved_by(lines, count, size)
                self.assertEqual(relation_sums(web, numbers), [0] * len(known))
                self.assertGreater(numbers[count], 0)
                self.assertEqual([numbers[other] for other in left if other != count], [0] * (len(left) - 1))


class Through(unittest.TestCase):
    def test_runs(self):
        for web in webs():
            runs = runs_through(web)
            self.assertEqual(sorted(runs), list(range(len(web[1]))))
            for row in runs:
                self.assertGreater(runs[row][row], 0)
                self.assertEqual(runs[row][len(web[1])], 1)
                self.assertIs(are_counts(web, runs[row]), True)

    def test_no_run_through_a_row_is_shorter(self):
        for web in samples.SMALL:
            runs = runs_through(web)
            shortest = {row: min(sum(numbers) for numbers in samples.plain_run_counts(web, 2) if numbers[row] > 0)
                        for row in range(len(web[1]))}
            self.assertEqual({row: sum(runs[row]) for row in runs}, shortest)

    def test_rounds_are_even_and_no_longer_than_runs(self):
        for web in webs():
            runs = runs_through(web)
            rounds = rounds_through(web)
            self.assertEqual(sorted(rounds), list(range(len(web[1]))))
            for row in rounds:
                self.assertGreater(rounds[row][row], 0)
                self.assertGreaterEqual(min(rounds[row]), 0)
                self.assertEqual(relation_sums(web, rounds[row]), [0] * len(relations(web)))
                self.assertLessEqual(sum(rounds[row]), sum(runs[row]))

    def test_a_round_of_one_row(self):
        self.assertEqual(rounds_through(samples.LOOPS)[1], [0, 1, 0, 0, 0, 0])
        self.assertEqual(rounds_through(samples.CALLED_ROUND)[3], [0, 0, 0, 1, 0, 0])
        self.assertEqual(rounds_through(samples.CALLED_ROUND)[2], [0, 1, 1, 0, 1, 1])


if __name__ == "__main__":
    unittest.main()
