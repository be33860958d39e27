import unittest

import samples
from fewcounters.chains import chain_number, chain_of, chains, offsets
from fewcounters.errors import NoChain, NoWeb

# Four parts, each but part 0 called by several rows, of several parts, the rows of the parts mixed.
CALLING = (
    [2, 2, 2, 2],
    [
        (2, 0, 1, 3),
        (0, 0, 1, 2),
        (1, 0, 1, 3),
        (0, 0, 1, -1),
        (3, 0, 1, -1),
        (1, 0, 1, 2),
        (0, 0, 1, 1),
        (0, 0, 1, 3),
        (2, 0, 1, 3),
        (0, 0, 1, 1),
        (1, 0, 1, -1),
    ],
)


def calling_webs():
    webs = samples.WOVEN + [CALLING] + [samples.calling_web(seed) for seed in range(60)]
    return webs + [samples.loose_web(seed) for seed in range(60)] + [samples.drawn_web(seed) for seed in range(30)]


class NoWebs(unittest.TestCase):
    def test_ahead_of_all_else(self):
        for what, web in samples.no_webs():
            with self.subTest(what):
                for function in (chains, offsets):
                    with self.assertRaises(NoWeb):
                        function(web)
                for chain in ([], [0], [-1], [10 ** 29]):
                    with self.assertRaises(NoWeb):
                        chain_number(web, chain)
                for part, number in ((0, 0), (-1, 0), (0, -1), (7, 0), (0, 10 ** 29)):
                    with self.assertRaises(NoWeb):
                        chain_of(web, part, number)


class Chains(unittest.TestCase):
    def test_by_hand(self):
        self.assertEqual(chains(samples.LINE), [1])
        self.assertEqual(chains(samples.DEEP), [1, 1, 1, 1])
        self.assertEqual(chains(samples.DIVIDED), [1, 5])
        self.assertEqual(chains(samples.NESTED), [1, 2, 5])
        self.assertEqual(chains(samples.MANY_CALLS), [1, 2, 3])
        self.assertEqual(chains(samples.FAR_APART), [1, 3, 9, 37])
        self.assertEqual(chains(CALLING), [1, 2, 3, 9])

    def test_all_chains(self):
        for web in calling_webs():
            told = chains(web)
            self.assertEqual(told, [len(samples.plain_chains(web, part)) for part in range(len(web[0]))])
            self.assertTrue(samples.is_plain(told))

    def test_many_chains(self):
        rows = []
        for part in range(3):
            rows += [(part, 0, 1, part + 1)] * 9
        web = ([2] * 4, rows + [(3, 0, 1, -1)])
        self.assertEqual(chains(web), [1, 9, 81, 729])


class Offsets(unittest.TestCase):
    def test_by_hand(self):
        self.assertEqual(offsets(samples.LINE), [0])
        self.assertEqual(offsets(samples.DEEP), [0, 0, 0, 0, 0])
        self.assertEqual(offsets(samples.DIVIDED), [0, 1, 2, 3, 4, 0])
        self.assertEqual(offsets(samples.NESTED), [0, 0, 1, 0, 1, 3, 0, 0])
        self.assertEqual(offsets(samples.MANY_CALLS), [0, 1, 0, 0, 1])
        self.assertEqual(offsets(CALLING), [0, 0, 3, 0, 0, 1, 0, 5, 6, 1, 0])

    def test_the_chains_to_the_parts_of_lesser_rows_that_call_the_same(self):
        for web in calling_webs():
            told = offsets(web)
            self.assertEqual(len(told), len(web[1]))
            self.assertTrue(samples.is_plain(told))
            for number, row in enumerate(web[1]):
                lesser = [other[0] for other in web[1][:number] if other[3] == row[3]] if row[3] >= 0 else []
                self.assertEqual(told[number], sum(len(samples.plain_chains(web, part)) for part in lesser))


class Numbers(unittest.TestCase):
    def test_part_0(self):
        for web in calling_webs():
            self.assertEqual(chain_of(web, 0, 0), [])
            self.assertEqual(chain_number(web, []), 0)

    def test_by_hand(self):
        self.assertEqual([chain_of(samples.NESTED, 2, number) for number in range(5)],
                         [[1], [0, 4], [2, 4], [0, 5], [2, 5]])
        self.assertEqual(chain_number(samples.NESTED, [0, 5]), 3)
        self.assertEqual(chain_number(samples.NESTED, [2]), 1)
        self.assertEqual(chain_number(samples.DEEP, [0, 1, 2]), 0)
        self.assertEqual([chain_of(CALLING, 3, number) for number in range(9)],
                         [[1, 0], [6, 5, 0], [9, 5, 0], [6, 2], [9, 2], [7], [1, 8], [6, 5, 8], [9, 5, 8]])

    def test_the_chains_to_each_part_have_just_the_numbers(self):
        for web in calling_webs():
            for part in range(len(web[0])):
                known = samples.plain_chains(web, part)
                told = [chain_number(web, chain) for chain in known]
                self.assertTrue(samples.is_plain(told))
                self.assertEqual(sorted(told), list(range(len(known))))
                self.assertEqual(told, [sum(offsets(web)[row] for row in chain) for chain in known])
                back = [chain_of(web, part, number) for number in told]
                self.assertEqual(back, known)
                self.assertTrue(all(samples.is_plain(chain) for chain in back))

    def test_what_is_no_chain(self):
        for web in samples.WOVEN + [CALLING] + [samples.loose_web(seed) for seed in range(10)]:
            known = [chain for part in range(len(web[0])) for chain in samples.plain_chains(web, part)]
            for chain in known:
                for near in samples.near_lists(web, chain):
                    if samples.is_plain(near) and near in known:
                        self.assertEqual(chain_number(web, near), sum(offsets(web)[row] for row in near))
                    else:
                        with self.assertRaises(NoChain):
                            chain_number(web, near)

    def test_by_what_a_list_is_none(self):
        wrong = [
            ("a row that calls none", [3]),
            ("its last row calls none", [6, 10]),
            ("a row behind one that calls none", [3, 6]),
            ("its first row is of another part", [5]),
            ("a row is of another part than is called", [6, 0]),
            ("turned round", [5, 6]),
            ("a row twice", [6, 6]),
            ("the row behind the last", [11]),
            ("a number below 0 that Python takes for row 6", [-5]),
            ("thirty figures", [10 ** 29]),
        ]
        self.assertEqual(chain_number(CALLING, [6, 5]), 1)
        for what, chain in wrong:
            with self.subTest(what):
                with self.assertRaises(NoChain):
                    chain_number(CALLING, chain)

    def test_no_chain_has_the_number(self):
        for web in calling_webs():
            for part in range(len(web[0])):
                for number in samples.no_numbers(len(samples.plain_chains(web, part))):
                    with self.assertRaises(NoChain):
                        chain_of(web, part, number)
        for number in (None, True, False, "0", 0.0, [0]):
            for part in range(4):
                with self.assertRaises(NoChain):
                    chain_of(CALLING, part, number)

    def test_no_chain_leads_to_a_part_that_is_not_there(self):
        for web in samples.WOVEN + [CALLING]:
            for part in samples.no_parts(web) + [True, False, None]:
                for number in (0, 1, -1, 10 ** 29):
                    with self.assertRaises(NoChain):
                        chain_of(web, part, number)


class Kept(unittest.TestCase):
    def test_nothing_handed_in_is_changed_and_all_told_is_new(self):
        for web in (samples.LINE, samples.NESTED, samples.DEEP, CALLING):
            samples.check_kept(self, chains, (list(web[0]), list(web[1])))
            samples.check_kept(self, offsets, (list(web[0]), list(web[1])))
            for part in range(len(web[0])):
                for number, chain in enumerate(samples.plain_chains(web, part)):
                    samples.check_kept(self, chain_number, (list(web[0]), list(web[1])), list(chain))
                    samples.check_kept(self, chain_of, (list(web[0]), list(web[1])), part, number)

    def test_refusals_change_nothing(self):
        web = (list(CALLING[0]), list(CALLING[1]))
        chain = [6, 5, 3]
        with self.assertRaises(NoChain):
            chain_number(web, chain)
        self.assertEqual((web, chain), (CALLING, [6, 5, 3]))

    def test_arguments(self):
        self.assertEqual(chains(web=samples.DIVIDED), [1, 5])
        self.assertEqual(offsets(web=samples.DIVIDED), [0, 1, 2, 3, 4, 0])
        self.assertEqual(chain_number(web=samples.DIVIDED, chain=[4]), 4)
        self.assertEqual(chain_of(web=samples.DIVIDED, part=1, number=4), [4])


if __name__ == "__main__":
    unittest.main()
