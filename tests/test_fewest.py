"""[6], [2], [3]: clash, fewest, fewest_plan."""

import random
import unittest

from handeddown.data import is_plan
from handeddown.plans import serves
from handeddown.routes import clash, fewest, fewest_plan
from tests.brute import fewest_of_all, least_clash
from tests.samples import (
    ROOT, STAR, THREE, TREE, WANTS, all_wants, as_lists, chain, drawn_tree, drawn_wants, leaves, letters_name, mixed,
    star, trees, value_above)

# Below r: a free, below it b and c locked, one below the other, and below c a free d; e locked, and f locked below e.
TIES = (("r", None, False), ("a", "r", False), ("b", "a", True), ("c", "b", True), ("d", "c", False),
        ("e", "r", True), ("f", "e", True))


class Checking(unittest.TestCase):
    def check_plan(self, tree, wants, few):
        plan = fewest_plan(tree, wants)
        self.assertIs(type(plan), tuple)
        for pair in plan:
            self.assertIs(type(pair), tuple)
        self.assertTrue(is_plan(tree, plan), (tree, wants, plan))
        self.assertEqual(len(plan), few, (tree, wants, plan))
        for folder, value in wants:
            self.assertEqual(value_above(tree, plan, folder), value, (tree, wants, plan))
        self.assertTrue(serves(tree, wants, plan))

    def check_all(self, tree, wants, values):
        few = fewest_of_all(tree, wants, values)
        pair = least_clash(tree, wants)
        self.assertEqual(pair is None, few is not None)
        self.assertEqual(clash(tree, wants), pair, (tree, wants))
        self.assertEqual(fewest(tree, wants), few, (tree, wants))
        if few is None:
            self.assertIsNone(fewest_plan(tree, wants))
        else:
            self.assertIs(type(fewest(tree, wants)), int)
            self.check_plan(tree, wants, few)


class Examples(Checking):
    def test_the_tree(self):
        self.assertEqual(fewest(TREE, WANTS), 3)
        self.assertIsNone(clash(TREE, WANTS))
        self.check_plan(TREE, WANTS, 3)

    def test_the_star(self):
        self.assertEqual(fewest(STAR, THREE), 3)
        self.check_plan(STAR, THREE, 3)
        self.assertEqual(
            clash((STAR[0], ("i", "r", True), ("j", "r", True)), (("i", "a"), ("j", "b"))), ("i", "j"))


class Clash(Checking):
    def test_none_without_locked_folders(self):
        for tree in (ROOT, TREE, STAR, chain(9), star(9)):
            wants = tuple(sorted((row[0], row[0]) for row in tree))
            self.assertIsNone(clash(tree, wants))
            self.assertEqual(fewest(tree, wants), len(tree))

    def test_none_without_wants_and_of_one_want(self):
        self.assertIsNone(clash(TIES, ()))
        for folder in "abcdefr":
            self.assertIsNone(clash(TIES, ((folder, "v"),)))

    def test_a_locked_folder_and_its_parent(self):
        self.assertEqual(clash(TIES, (("a", "v"), ("b", "w"))), ("a", "b"))
        self.assertEqual(clash(TIES, (("e", "v"), ("r", "w"))), ("e", "r"))
        self.assertIsNone(clash(TIES, (("a", "v"), ("b", "v"))))

    def test_downwards_over_several_locked_folders(self):
        self.assertEqual(clash(TIES, (("a", "v"), ("c", "w"))), ("a", "c"))
        self.assertEqual(clash(TIES, (("b", "v"), ("c", "w"))), ("b", "c"))
        self.assertEqual(clash(TIES, (("f", "v"), ("r", "w"))), ("f", "r"))
        self.assertEqual(clash(chain(9, locked=range(1, 9)), (("aa", "v"), ("ai", "w"))), ("aa", "ai"))

    def test_a_free_folder_between_unties(self):
        for at in range(1, 9):
            tree = chain(9, locked=[k for k in range(1, 9) if k != at])
            self.assertIsNone(clash(tree, (("aa", "v"), ("ai", "w"))))
            self.assertEqual(fewest(tree, (("aa", "v"), ("ai", "w"))), 2)

    def test_a_free_folder_is_not_tied_to_its_parent(self):
        self.assertIsNone(clash(TIES, (("a", "v"), ("r", "w"))))
        self.assertIsNone(clash(TIES, (("c", "v"), ("d", "w"))))
        self.assertIsNone(clash(TIES, (("b", "v"), ("e", "w"))))
        self.assertIsNone(clash(TIES, (("d", "v"), ("f", "w"))))

    def test_two_locked_branches_below_one_folder_that_is_not_locked(self):
        tree = (("r", None, False), ("t", "r", False), ("a", "t", True), ("b", "a", True), ("c", "t", True),
                ("d", "c", True), ("e", "t", False))
        self.assertEqual(clash(tree, (("b", "v"), ("d", "w"))), ("b", "d"))
        self.assertEqual(clash(tree, (("b", "v"), ("c", "w"))), ("b", "c"))
        self.assertIsNone(clash(tree, (("b", "v"), ("d", "v"), ("e", "w"), ("r", "w"))))

    def test_the_least_of_several_pairs(self):
        tree = star(5, locked=(1, 2, 3, 4))
        self.assertEqual(clash(tree, (("ab", "v"), ("ac", "v"), ("ad", "w"), ("ae", "u"))), ("ab", "ad"))
        self.assertEqual(clash(tree, (("aa", "v"), ("ab", "w"), ("ac", "u"))), ("aa", "ab"))
        self.assertEqual(clash(tree, (("ac", "v"), ("ad", "w"), ("ae", "v"))), ("ac", "ad"))
        self.assertEqual(clash(TIES, (("b", "v"), ("c", "w"), ("e", "w"), ("f", "v"))), ("b", "c"))
        self.assertEqual(clash(TIES, (("b", "v"), ("c", "v"), ("e", "w"), ("f", "v"))), ("e", "f"))

    def test_the_lesser_name_first_whatever_the_rows_order(self):
        tree = (("z", None, False), ("m", "z", True), ("b", "m", True), ("aa", "z", True))
        self.assertEqual(clash(tree, (("m", "v"), ("z", "w"))), ("m", "z"))
        self.assertEqual(clash(tree, (("b", "v"), ("m", "w"))), ("b", "m"))
        self.assertEqual(clash(tree, (("aa", "v"), ("z", "w"))), ("aa", "z"))
        # By length b would stand ahead of aa.
        self.assertEqual(clash(tree, (("aa", "v"), ("b", "v"), ("m", "w"))), ("aa", "m"))
        self.assertEqual(clash(tree, (("aa", "v"), ("b", "w"), ("m", "w"))), ("aa", "b"))

    def test_a_pair_is_a_tuple(self):
        for form in (tuple, as_lists, mixed):
            pair = clash(form(TIES), form((("a", "v"), ("b", "w"))))
            self.assertIs(type(pair), tuple)
            self.assertEqual(pair, ("a", "b"))


class Fewest(Checking):
    def test_without_wants(self):
        for tree in (ROOT, TREE, TIES, STAR, chain(16), star(16)):
            self.assertEqual(fewest(tree, ()), 1)
            self.assertEqual(fewest(tree, []), 1)
            self.check_plan(tree, (), 1)

    def test_one_want_or_wants_of_one_value(self):
        for tree in (ROOT, TREE, TIES, STAR, chain(16), star(16)):
            everyone = tuple(sorted((row[0], "v") for row in tree))
            self.assertEqual(fewest(tree, everyone), 1)
            self.check_plan(tree, everyone, 1)
            for want in everyone:
                self.check_plan(tree, (want,), 1)

    def test_a_chain_takes_a_setting_for_each_change(self):
        tree = chain(6)
        names = [row[0] for row in tree]
        self.check_plan(tree, tuple(zip(names, "ababab")), 6)
        self.check_plan(tree, tuple(zip(names, "aabbaa")), 3)
        self.check_plan(tree, (("aa", "v"), ("ac", "w"), ("af", "v")), 3)
        self.check_plan(tree, (("ac", "v"), ("af", "w")), 2)

    def test_a_star_takes_the_commonest_value_at_the_root(self):
        self.check_plan(star(6), tuple(zip(["ab", "ac", "ad", "ae", "af"], "abbcb")), 3)
        self.check_plan(star(6), tuple(zip(["aa", "ab", "ac", "ad", "ae", "af"], "aabbcb")), 5)

    def test_a_folder_below_that_decides_for_one_above(self):
        # At x a, b and c are as good; y is b. So r and x take b.
        tree = (("r", None, False), ("x", "r", False), ("y", "r", False), ("i", "x", False), ("j", "x", False),
                ("k", "x", False))
        self.check_plan(tree, (("i", "a"), ("j", "b"), ("k", "c"), ("y", "b")), 3)

    def test_folders_without_wants_below_are_handed_down_to(self):
        tree = (("r", None, False), ("x", "r", False), ("y", "x", False), ("z", "x", False), ("w", "r", False))
        self.check_plan(tree, (("r", "a"), ("w", "b")), 2)
        self.check_plan(tree, (("r", "a"), ("x", "b")), 2)
        self.check_plan(tree, (("w", "b"),), 1)

    def test_locked_folders_are_written_above_them(self):
        self.check_plan(TIES, (("c", "v"), ("f", "w")), 2)
        self.check_plan(TIES, (("b", "v"), ("c", "v"), ("d", "u"), ("f", "w")), 3)
        self.check_plan(TIES, (("b", "v"), ("d", "w"), ("e", "w"), ("r", "w")), 3)
        self.assertNotIn("c", [pair[0] for pair in fewest_plan(TIES, (("c", "v"), ("f", "w")))])

    def test_none_exactly_if_there_is_a_clash(self):
        wants = (("a", "v"), ("c", "w"))
        self.assertIsNone(fewest(TIES, wants))
        self.assertIsNone(fewest_plan(TIES, wants))
        self.assertIsNone(fewest(list(TIES), list(wants)))

    def test_values_may_be_named_like_folders(self):
        self.check_plan(TREE, (("i", "j"), ("j", "i"), ("k", "r"), ("r", "k")), 4)


class AllSmall(Checking):
    def test_trees_of_up_to_three_folders_and_three_values(self):
        for many in (1, 2, 3):
            for tree in trees(many):
                for wants in all_wants(tree, ("a", "b", "c")):
                    self.check_all(tree, wants, ("a", "b", "c"))

    def test_trees_of_four_folders(self):
        for tree in trees(4):
            for wants in all_wants(tree, ("a", "b")):
                self.check_all(tree, wants, ("a", "b"))

    def test_drawn_wants_in_trees_of_five_and_six_folders(self):
        chance = random.Random(1)
        for _ in range(300):
            tree = drawn_tree(chance, chance.choice((5, 6)), lock=chance.choice((0.0, 0.3, 0.7)))
            folders = chance.sample(sorted(row[0] for row in tree), chance.randint(2, 5))
            wants = tuple(sorted((folder, chance.choice("abc")) for folder in folders))
            self.check_all(tree, wants, ("a", "b", "c"))

    def test_a_value_that_nobody_wants_saves_nothing(self):
        for tree in trees(3):
            for wants in all_wants(tree, ("a", "b")):
                self.check_all(tree, wants, ("a", "b", "d"))


class Sizes(Checking):
    def test_sixteen_folders_and_six_values(self):
        chance = random.Random(2)
        for k in range(60):
            tree = drawn_tree(chance, 16, lock=(0.0, 0.3)[k % 2], near=(None, 1, 2, 5)[k % 4])
            wants = drawn_wants(chance, tree, "abcdef", inner=(0.0, 0.3, 1.0)[k % 3])
            self.assertIsNone(clash(tree, wants))
            few = fewest(tree, wants)
            self.check_plan(tree, wants, few)

    def test_chains_and_stars(self):
        for many in (16, 17, 40):
            wants = tuple((letters_name(k), "abcdefgh"[k % 8]) for k in range(many))
            self.assertEqual(fewest(chain(many), wants), many)
            self.assertEqual(fewest(chain(many, locked=range(8, many, 8)), wants), None)
            self.assertEqual(fewest(star(many), wants), many - (many - 1) // 8)
            self.assertEqual(fewest(star(many), wants[1:]), many - len([1 for _, v in wants[1:] if v == "b"]))
            self.assertEqual(clash(star(many, locked=(3, many - 1)), wants), ("aa", "ad"))
            self.check_plan(star(many), wants, many - (many - 1) // 8)

    def test_full_trees(self):
        # Four leaves below each of four folders: in each four the commonest value is free.
        rows = [("r", None, False)]
        wants = []
        for group in "abcd":
            rows.append((group, "r", False))
            for leaf in "wxyz":
                rows.append((group + leaf, group, False))
        for group, values in zip("abcd", ("vvvw", "vwwu", "uuvw", "wwvu")):
            wants += [(group + leaf, value) for leaf, value in zip("wxyz", values)]
        self.assertEqual(leaves(rows), sorted(want[0] for want in wants))
        # One, two, two and two leaves are written; of the groups, those of v and u, as the root has w.
        self.check_plan(tuple(rows), tuple(wants), 1 + (1 + 2 + 2 + 2) + 2)


class Arguments(Checking):
    def test_lists_for_tuples_at_any_depth(self):
        for tree, wants in ((TREE, WANTS), (STAR, THREE), (TIES, (("c", "v"), ("f", "w"))), (TREE, ())):
            for form in (list, as_lists, mixed):
                self.assertEqual(fewest(form(tree), form(wants)), fewest(tree, wants))
                self.assertEqual(fewest_plan(form(tree), form(wants)), fewest_plan(tree, wants))
                self.assertIsNone(clash(form(tree), form(wants)))
                self.check_plan(tree, tuple(map(tuple, wants)), fewest(form(tree), wants))
                for pair in fewest_plan(form(tree), form(wants)):
                    self.assertIs(type(pair), tuple)

    def test_arguments_by_their_names(self):
        self.assertEqual(fewest(wants=WANTS, tree=TREE), 3)
        self.assertEqual(fewest_plan(wants=WANTS, tree=TREE), fewest_plan(TREE, WANTS))
        self.assertEqual(clash(wants=(("a", "v"), ("b", "w")), tree=TIES), ("a", "b"))

    def test_nothing_that_is_passed_in_is_changed(self):
        for tree, wants in ((TREE, WANTS), (TIES, (("a", "v"), ("b", "w")))):
            given, asked = as_lists(tree), as_lists(wants)
            clash(given, asked)
            fewest(given, asked)
            fewest_plan(given, asked)
            self.assertEqual((given, asked), (as_lists(tree), as_lists(wants)))

    def test_the_same_call_twice_gives_equal_results(self):
        chance = random.Random(3)
        for _ in range(20):
            tree = drawn_tree(chance, 12, lock=0.2)
            wants = drawn_wants(chance, tree, "abc", inner=0.3)
            first = fewest_plan(tree, wants)
            self.assertEqual(fewest_plan(tree, wants), first)
            self.assertEqual(fewest_plan(as_lists(tree), as_lists(wants)), first)
            self.assertEqual(fewest_plan(wants=mixed(wants), tree=mixed(tree)), first)

    def test_what_is_returned_may_be_passed_in_again(self):
        plan = fewest_plan(TREE, WANTS)
        self.assertEqual(fewest(TREE, plan), len(plan))


if __name__ == "__main__":
    unittest.main()
