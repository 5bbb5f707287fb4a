"""[8]: cores and blocks, which stand for the states from which ways are alike."""

import unittest
from itertools import combinations

from fieldoffers.blocks import Blocks
from fieldoffers.cores import Cores
from fieldoffers.keys import all_keys
from fieldoffers.reaching import rows_to_states
from fieldoffers.states import press, view_of
from fieldoffers.ways import all_ways
from tests.samples import P, Q, W, way
from tests.trials import blocks_of, steps_of

LISTS = [["b"], ["ab", "aa"], W, ["abb", "ab", "aba"], ["bab", "ab", "bba"]]


class OfStates(unittest.TestCase):
    def test_steps_of_cores_are_the_cores_of_steps(self):
        for one in all_ways():
            for at, words in enumerate(LISTS):
                cores = Cores(one, at % 2)
                for state in rows_to_states(one, words):
                    after = [press(one, state, key) for key in all_keys()]
                    steps = [
                        (cores.core_of(behind), view_of(one, behind, at % 2)) for behind in after
                    ]
                    if cores.steps(cores.core_of(state)) != steps:
                        self.fail(f"{one} for {words} in the sight {at % 2}: {state}")

    def test_all_cores_are_reached(self):
        for one in [P, Q, way("short", 1, "blank", "next", "both", 1)]:
            for words in LISTS:
                cores = Cores(one, 0)
                found = cores.reached(words)
                self.assertEqual(len(found), len(set(found)))
                self.assertEqual(
                    set(found), {cores.core_of(state) for state in steps_of(one, words, 0)})

    def test_there_are_few(self):
        # 31 texts: what was put in, and an order of words that do not compete, are no more.
        for one in [way(), way(learn=1), way("short", back="both")]:
            self.assertEqual(len(Cores(one, 0).reached(["a", "b", "ba"])), 31 + (one[4] == "both"))


class OfFamilies(unittest.TestCase):
    def test_blocks(self):
        families = [[P], [P, Q], [P, Q, P, way(again="next")], [way(learn=1), way("short", learn=1)]]
        for family in families:
            for words in LISTS:
                for sight in [0, 1]:
                    self.check(family, words, sight)

    def check(self, family, words, sight):
        expected = blocks_of(family, words, sight)
        blocks = Blocks(family, words, sight)
        found = {node: blocks.block_at(family[node[0]], node[1]) for node in expected}
        with self.subTest(family=family, words=words, sight=sight):
            pairs = {(expected[node], found[node]) for node in expected}
            self.assertEqual(len(pairs), len(set(expected.values())))
            self.assertEqual(len(pairs), len(set(found.values())))

    def test_starts_and_moves(self):
        for one, other in combinations([P, Q, way(back="both")], 2):
            blocks = Blocks([one, other, one], W, 0)
            self.assertEqual(blocks.starts[0], blocks.starts[2])
            self.assertNotEqual(blocks.starts[0], blocks.starts[1])
            for at, moves in blocks.moves.items():
                self.assertEqual(len(moves), 6)
                self.assertTrue(all(block in blocks.moves for block, _ in moves), at)


if __name__ == "__main__":
    unittest.main()
