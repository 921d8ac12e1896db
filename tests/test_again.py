"""[2]: the same call gives an equal result in each run of Python, also where the document leaves a choice."""

import os
import subprocess
import sys
import unittest

CALLS = """
import random
from handeddown.desk import answers
from handeddown.edits import edited, edits, fewest_edits, lean_edited, lean_edits
from handeddown.every import can_be, exchanged, how_many, may_write, must_write, pieces, with_value
from handeddown.places import moved, places
from handeddown.plans import tidied, values_of
from handeddown.routes import clash, fewest, fewest_plan, routes
from handeddown.texts import pairs_in, pairs_text, tree_in, tree_text
from handeddown.wants import core, costs, spared
from tests.lines import drawn_requests, text_of
from tests.samples import drawn_plan, drawn_tree, drawn_wants

chance = random.Random(51)
for k in range(40):
    tree = drawn_tree(chance, 6 + k % 11, lock=(0.0, 0.2)[k % 2])
    wants = drawn_wants(chance, tree, "abcdef"[:2 + k % 5], inner=(0.0, 0.3)[k % 3 == 0])
    plan, other = drawn_plan(chance, tree), drawn_plan(chance, tree)
    for call in (clash, fewest, fewest_plan, routes, how_many, must_write, may_write):
        print(call(tree, wants))
    for call in (fewest_edits, edited, lean_edits, lean_edited):
        print(call(tree, wants, plan))
    print(can_be(tree, wants, "aa"), with_value(tree, wants, "ab", "f"), edits(plan, other))
    print(values_of(tree, plan), tidied(tree, plan))
    for piece in pieces(tree, plan, other):
        print(piece, exchanged(tree, plan, other, list(piece)))
    folder = min(row[0] for row in tree[1:])
    print(spared(tree, wants), core(tree, wants[:9]))
    print([costs(tree, wants, row[0]) for row in tree if row[0] not in dict(wants)])
    print(moved(tree, folder, tree[0][0]), places(tree, (), folder), tree_in(tree_text(tree)))
    print(pairs_in(pairs_text(plan)), answers(text_of(tree, drawn_requests(chance, tree, 20))))
"""


class Again(unittest.TestCase):
    def test_whatever_the_order_of_the_members_of_sets_is(self):
        # Python orders the strings of a set by a seed, which is another one in each run unless it is named.
        told = [self.told(seed) for seed in ("0", "1", "2", "3")]
        self.assertLess(200, len(told[0].splitlines()))
        for other in told[1:]:
            self.assertEqual(other, told[0])

    def told(self, seed):
        root = os.path.dirname(os.path.dirname(os.path.abspath(__file__)))
        run = subprocess.run(
            [sys.executable, "-c", CALLS], cwd=root, env={**os.environ, "PYTHONHASHSEED": seed},
            stdout=subprocess.PIPE, check=True)
        return run.stdout.decode("ascii")


if __name__ == "__main__":
    unittest.main()
