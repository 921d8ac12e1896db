"""[8], [1], [2], [3]: pieces, exchanged."""

import random
import unittest

from handeddown.data import is_plan
from handeddown.errors import Locked
from handeddown.every import exchanged, is_fewest, pieces
from handeddown.plans import is_lean, tidied
from tests.brute import fewest_plans, least_clash
from tests.samples import (
    LOCKED, PLAN, STAR, THREE, TREE, all_wants, as_lists, can_spare, chain, drawn_plan, drawn_tree, drawn_wants, mixed,
    plans, star, trees, value_above, values_above)

ONE = (("j", "b"), ("k", "c"), ("r", "a"))
OTHER = (("i", "a"), ("k", "c"), ("r", "b"))


def pieces_by_spreading(tree, one, other):
    """The pieces: from each folder of unlike values as far as neighbours of unlike values lead."""
    unlike = {row[0] for row in tree if value_above(tree, one, row[0]) != value_above(tree, other, row[0])}
    beside = {name: set() for name, _, _ in tree}
    for name, parent, _ in tree:
        if parent is not None:
            beside[name].add(parent)
            beside[parent].add(name)
    found = set()
    for name in unlike:
        piece = {name}
        for _ in tree:
            piece |= {other for folder in piece for other in beside[folder]} & unlike
        found.add(tuple(sorted(piece)))
    return sorted(found)


class Checking(unittest.TestCase):
    def check_pieces(self, tree, one, other):
        expected = pieces_by_spreading(tree, one, other)
        found = pieces(tree, one, other)
        self.assertIs(type(found), list)
        for piece in found:
            self.assertIs(type(piece), tuple)
        self.assertEqual(found, expected, (tree, one, other))
        self.assertEqual(pieces(tree, other, one), expected)

    def check_exchanged(self, tree, one, other, folders):
        given = {
            name: value_above(tree, other if name in folders else one, name) for name, _, _ in tree}
        torn = sorted(name for name, parent, is_locked in tree if is_locked and given[name] != given[parent])
        if torn:
            with self.assertRaises(Locked) as caught:
                exchanged(tree, one, other, folders)
            self.assertEqual(caught.exception.folder, torn[0], (tree, one, other, folders))
            self.assertIsInstance(caught.exception, LookupError)
            return False
        plan = exchanged(tree, one, other, folders)
        self.check_plan(tree, plan)
        self.assertEqual(values_above(tree, plan), sorted(given.items()), (tree, one, other, folders))
        return True

    def check_plan(self, tree, plan):
        self.assertIs(type(plan), tuple)
        for pair in plan:
            self.assertIs(type(pair), tuple)
        self.assertIs(is_plan(tree, plan), True)
        self.assertIs(is_lean(tree, plan), True)
        self.assertEqual(can_spare(tree, plan), [])


class Pieces(Checking):
    def test_the_example(self):
        self.assertEqual(pieces(STAR, ONE, OTHER), [("r",)])
        self.check_pieces(STAR, ONE, OTHER)

    def test_none_of_the_same_plan_or_of_the_same_values(self):
        for tree, plan in ((TREE, PLAN), (STAR, ONE), (LOCKED, (("a", "v"), ("r", "w")))):
            self.assertEqual(pieces(tree, plan, plan), [])
            self.assertEqual(pieces(tree, plan, list(plan)), [])
            self.assertEqual(pieces(tree, plan, tidied(tree, plan)), [])
        self.assertEqual(pieces(TREE, PLAN, (("i", "a"), ("l", "c"), ("r", "b"))), [])

    def test_all_folders_in_one_piece(self):
        for tree in (TREE, STAR, LOCKED, chain(16), star(16)):
            root = tree[0][0]
            self.assertEqual(
                pieces(tree, ((root, "v"),), ((root, "w"),)), [tuple(sorted(row[0] for row in tree))])

    def test_brothers_hang_together_only_by_their_parent(self):
        self.assertEqual(
            pieces(STAR, (("r", "a"),), (("i", "b"), ("j", "b"), ("r", "a"))), [("i",), ("j",)])
        self.assertEqual(
            pieces(STAR, (("r", "a"),), (("i", "b"), ("j", "b"), ("k", "a"), ("r", "b"))), [("i", "j", "r")])

    def test_unlike_values_hang_together_whichever_they_are(self):
        # Each of these has two values, and none of them is that of its neighbour.
        tree = chain(4)
        one = (("aa", "a"), ("ab", "b"), ("ac", "c"), ("ad", "d"))
        other = (("aa", "b"), ("ab", "c"), ("ac", "d"), ("ad", "a"))
        self.assertEqual(pieces(tree, one, other), [("aa", "ab", "ac", "ad")])
        self.assertEqual(pieces(tree, one, (("aa", "b"), ("ac", "e"))), [("aa",), ("ac", "ad")])

    def test_a_chain_in_pieces(self):
        tree = chain(7)
        one = (("aa", "v"),)
        other = (("aa", "w"), ("ac", "v"), ("ad", "w"), ("af", "v"), ("ag", "u"))
        self.assertEqual(pieces(tree, one, other), [("aa", "ab"), ("ad", "ae"), ("ag",)])
        self.check_pieces(tree, one, other)

    def test_locked_folders_are_parts_of_pieces(self):
        one, other = (("a", "v"), ("d", "u"), ("r", "w")), (("d", "v"), ("r", "w"))
        self.assertEqual(pieces(LOCKED, one, other), [("a", "b", "c", "d")])
        self.assertEqual(pieces(LOCKED, (("a", "v"), ("r", "w")), (("a", "v"), ("r", "u"))), [("e", "r")])

    def test_they_ascend_whatever_the_rows_order(self):
        tree = (("z", None, False), ("m", "z", False), ("b", "z", False), ("aa", "m", False), ("ab", "b", False))
        one, other = (("z", "v"),), (("aa", "w"), ("ab", "w"), ("b", "w"), ("z", "v"))
        self.assertEqual(pieces(tree, one, other), [("aa",), ("ab", "b")])
        other = (("ab", "v"), ("m", "w"), ("z", "w"))
        self.assertEqual(pieces(tree, one, other), [("aa", "b", "m", "z")])
        other = (("b", "u"), ("m", "w"), ("z", "v"))
        self.assertEqual(pieces(tree, one, other), [("aa", "m"), ("ab", "b")])

    def test_all_plans_of_small_trees(self):
        for many in (1, 2, 3):
            for tree in trees(many):
                every = list(plans(tree, ("a", "b")))
                for one in every:
                    for other in every:
                        self.check_pieces(tree, one, other)

    def test_drawn_plans_of_larger_trees(self):
        chance = random.Random(21)
        for many in (5, 9, 16, 24):
            for _ in range(10):
                tree = drawn_tree(chance, many, lock=0.2)
                self.check_pieces(tree, drawn_plan(chance, tree), drawn_plan(chance, tree))


class Exchanged(Checking):
    def test_the_example(self):
        self.assertEqual(exchanged(STAR, ONE, OTHER, ["r"]), OTHER)
        self.assertEqual(exchanged(STAR, OTHER, ONE, ["r"]), ONE)

    def test_no_folders_and_all_folders(self):
        for tree, one, other in ((STAR, ONE, OTHER), (TREE, PLAN, (("r", "a"), ("x", "a"))),
                                 (LOCKED, (("a", "v"), ("r", "w")), (("d", "v"), ("r", "v")))):
            names = [row[0] for row in tree]
            self.assertEqual(exchanged(tree, one, other, []), tidied(tree, one))
            self.assertEqual(exchanged(tree, one, other, ()), tidied(tree, one))
            self.assertEqual(exchanged(tree, one, other, names), tidied(tree, other))
            self.assertEqual(exchanged(tree, one, one, names[:1]), tidied(tree, one))
            self.check_exchanged(tree, one, other, [])
            self.check_exchanged(tree, one, other, names)

    def test_it_is_lean(self):
        self.assertEqual(exchanged(TREE, PLAN, PLAN, ["i"]), (("i", "a"), ("l", "c"), ("r", "b")))
        self.assertEqual(
            exchanged(STAR, (("i", "b"), ("r", "a")), (("r", "b"),), ["r", "j"]), (("k", "a"), ("r", "b")))

    def test_the_others_keep_their_values(self):
        # Only r becomes b, so x and y have to be written.
        self.assertEqual(
            exchanged(TREE, (("r", "a"),), (("r", "b"),), ["r"]), (("r", "b"), ("x", "a"), ("y", "a")))
        self.assertEqual(
            exchanged(TREE, (("r", "a"),), (("r", "b"),), ["y", "x"]),
            (("i", "a"), ("j", "a"), ("k", "a"), ("l", "a"), ("r", "a"), ("x", "b"), ("y", "b")))

    def test_a_folder_told_twice_is_as_one_told_once(self):
        self.assertEqual(
            exchanged(TREE, (("r", "a"),), (("r", "b"),), ["i", "i", "j", "i"]),
            (("i", "b"), ("j", "b"), ("r", "a")))

    def test_a_locked_folder_that_had_to_be_written(self):
        one, other = (("r", "v"),), (("r", "w"),)
        for folders, least in ((["a"], "b"), (["r"], "e"), (["e"], "e"), (["b"], "b"), (["c"], "c"), (["b", "d"], "b"),
                               (["d", "e"], "e"), (["a", "b"], "c"), (["c", "e"], "c"), (["r", "a"], "b"),
                               (["e", "b"], "b"), (["r", "a", "b", "c", "d"], "e")):
            with self.assertRaises(Locked) as caught:
                exchanged(LOCKED, one, other, folders)
            self.assertEqual(caught.exception.folder, least, folders)
            self.check_exchanged(LOCKED, one, other, folders)
        for folders in (["d"], ["a", "b", "c"], ["r", "e"], ["c", "d", "a", "b"], ["e", "r", "d"]):
            self.assertIs(self.check_exchanged(LOCKED, one, other, folders), True)

    def test_the_least_one_by_name_and_not_by_row(self):
        tree = (("z", None, False), ("m", "z", True), ("b", "z", True), ("aa", "z", True))
        for folders, least in ((["z"], "aa"), (["m"], "m"), (["m", "b"], "b"), (["aa", "m"], "aa")):
            with self.assertRaises(Locked) as caught:
                exchanged(tree, (("z", "v"),), (("z", "w"),), folders)
            self.assertEqual(caught.exception.folder, least)

    def test_a_locked_folder_of_the_same_value_need_not_be_written(self):
        one, other = (("a", "v"), ("r", "w")), (("r", "w"),)
        self.assertIs(self.check_exchanged(LOCKED, one, other, ["e"]), True)
        self.assertIs(self.check_exchanged(LOCKED, one, other, ["r"]), True)
        self.assertIs(self.check_exchanged(LOCKED, one, other, ["a"]), False)

    def test_all_plans_and_folders_of_small_trees(self):
        for many in (1, 2, 3):
            for tree in trees(many):
                every = list(plans(tree, ("a", "b")))
                for one in every:
                    for other in every:
                        for folders in subsets([row[0] for row in tree]):
                            self.check_exchanged(tree, one, other, folders)

    def test_drawn_folders_of_larger_trees(self):
        chance = random.Random(22)
        answers = []
        for many in (5, 9, 16, 24):
            for lock in (0.0, 0.1):
                for _ in range(10):
                    tree = drawn_tree(chance, many, lock=lock)
                    one, other = drawn_plan(chance, tree), drawn_plan(chance, tree)
                    names = [row[0] for row in tree]
                    for folders in (chance.sample(names, many // 2), names[:2], *pieces(tree, one, other)):
                        answers.append(self.check_exchanged(tree, one, other, list(folders)))
        self.assertLess(20, answers.count(True))
        self.assertLess(20, answers.count(False))

    def test_a_piece_of_plans_never_ends_at_a_locked_folder(self):
        chance = random.Random(23)
        for _ in range(40):
            tree = drawn_tree(chance, 10, lock=0.5)
            one, other = drawn_plan(chance, tree), drawn_plan(chance, tree)
            for piece in pieces(tree, one, other):
                self.assertIs(self.check_exchanged(tree, one, other, piece), True)


class PieceByPiece(Checking):
    def check_pairs(self, tree, wants, best):
        for one in best:
            for other in best:
                plan = one
                for piece in pieces(tree, one, other):
                    self.assertIs(is_fewest(tree, wants, exchanged(tree, one, other, piece)), True)
                    # One after the other they lead to the other plan, by fewest ones alone.
                    plan = exchanged(tree, plan, other, piece)
                    self.assertIs(is_fewest(tree, wants, plan), True, (tree, wants, one, other))
                self.assertEqual(plan, other)

    def test_the_star(self):
        best = fewest_plans(STAR, THREE, ("a", "b", "c"))
        self.assertEqual(len(best), 3)
        self.check_pairs(STAR, THREE, best)

    def test_all_fewest_plans_of_small_trees(self):
        for many in (2, 3, 4):
            for tree in trees(many):
                for wants in all_wants(tree, ("a", "b")):
                    if wants and least_clash(tree, wants) is None:
                        self.check_pairs(tree, wants, fewest_plans(tree, wants, ("a", "b")))

    def test_fewest_plans_of_drawn_trees(self):
        chance = random.Random(24)
        for k in range(20):
            tree = drawn_tree(chance, 6, lock=(0.0, 0.3)[k % 2])
            wants = drawn_wants(chance, tree, "abc")
            self.check_pairs(tree, wants, fewest_plans(tree, wants, ("a", "b", "c"))[:12])


class Arguments(Checking):
    def test_lists_for_tuples_at_any_depth(self):
        for form in (list, as_lists, mixed):
            self.assertEqual(pieces(form(STAR), form(ONE), form(OTHER)), [("r",)])
            self.assertIs(type(pieces(form(STAR), form(ONE), form(OTHER))[0]), tuple)
            for folders in (["r"], ("r",)):
                plan = exchanged(form(STAR), form(ONE), form(OTHER), folders)
                self.assertEqual(plan, OTHER)
                self.check_plan(STAR, plan)
            with self.assertRaises(Locked):
                exchanged(form(LOCKED), [["r", "v"]], form((("r", "w"),)), ("a",))

    def test_arguments_by_their_names(self):
        self.assertEqual(pieces(other=OTHER, one=ONE, tree=STAR), [("r",)])
        self.assertEqual(exchanged(folders=["r"], other=OTHER, one=ONE, tree=STAR), OTHER)
        self.assertEqual(exchanged(STAR, folders=[], other=OTHER, one=ONE), ONE)

    def test_a_piece_may_be_passed_in_again(self):
        for piece in pieces(TREE, PLAN, (("r", "c"),)):
            self.check_exchanged(TREE, PLAN, (("r", "c"),), piece)

    def test_nothing_that_is_passed_in_is_changed(self):
        tree, one, other, folders = as_lists(STAR), as_lists(ONE), as_lists(OTHER), ["r", "j"]
        pieces(tree, one, other)
        exchanged(tree, one, other, folders)
        self.assertEqual(
            (tree, one, other, folders), (as_lists(STAR), as_lists(ONE), as_lists(OTHER), ["r", "j"]))

    def test_a_returned_list_belongs_to_the_caller(self):
        first, second = pieces(STAR, ONE, OTHER), pieces(STAR, ONE, OTHER)
        self.assertIsNot(first, second)
        first.append("more")
        second.clear()
        self.assertEqual(pieces(STAR, ONE, OTHER), [("r",)])

    def test_no_wants_are_asked_for(self):
        # By plans that serve no wants in particular there is neither NoWants nor Clashing.
        tree = (("r", None, False), ("a", "r", True))
        self.assertEqual(pieces(tree, (("r", "v"),), (("r", "w"),)), [("a", "r")])
        self.assertEqual(exchanged(tree, (("r", "v"),), (("r", "w"),), ["a", "r"]), (("r", "w"),))


def subsets(names):
    """All lists of some of these names."""
    found = [[]]
    for name in names:
        found += [[*rest, name] for rest in found]
    return found


if __name__ == "__main__":
    unittest.main()
