"""[11]: moved, places."""

import random
import unittest

from handeddown.data import is_tree
from handeddown.errors import Below, Clashing, IsRoot
from handeddown.places import moved, places
from handeddown.routes import clash, fewest
from tests.brute import counter, moved_rows, parents_for, stands_in
from tests.samples import (
    LOCKED, ROOT, STAR, THREE, TREE, WANTS, all_wants, as_lists, chain, drawn_tree, drawn_wants, letters_name, star,
    trees)


class Checking(unittest.TestCase):
    def check_moves(self, tree):
        """All moves of all folders, the wrong ones, too."""
        for name, _, _ in tree:
            for parent, _, _ in tree:
                if name == tree[0][0]:
                    self.check_root(lambda: moved(tree, name, parent))
                elif stands_in(tree, parent, name):
                    self.check_below(tree, name, parent)
                else:
                    self.check_moved(tree, name, parent)

    def check_moved(self, tree, folder, parent):
        found = moved(tree, folder, parent)
        self.assertEqual(found, moved_rows(tree, folder, parent))
        self.assertIs(is_tree(found), True, found)
        # Just one folder has another parent, if any, and none another lock.
        self.assertEqual(
            sorted(found),
            sorted((name, parent if name == folder else above, is_locked) for name, above, is_locked in tree))

    def check_root(self, call):
        with self.assertRaises(IsRoot) as caught:
            call()
        self.assertIs(type(caught.exception), IsRoot)
        self.assertIsInstance(caught.exception, RuntimeError)

    def check_below(self, tree, folder, parent):
        with self.assertRaises(Below) as caught:
            moved(tree, folder, parent)
        self.assertIs(type(caught.exception), Below)
        self.assertIsInstance(caught.exception, LookupError)
        self.assertEqual((caught.exception.folder, caught.exception.parent), (folder, parent))

    def check_places(self, tree, wants, folder, few):
        """Where few tells the fewest settings for a tree and wants."""
        numbers = {parent: few(moved_rows(tree, folder, parent), wants) for parent in parents_for(tree, folder)}
        known = [number for number in numbers.values() if number is not None]
        if not known:
            with self.assertRaises(Clashing) as caught:
                places(tree, wants, folder)
            self.assertIs(type(caught.exception), Clashing)
            return
        found = places(tree, wants, folder)
        self.assertIs(type(found), tuple)
        self.assertEqual(len(found), 2)
        self.assertIs(type(found[0]), int)
        self.assertIs(type(found[1]), list)
        expected = sorted(parent for parent in numbers if numbers[parent] == min(known))
        self.assertEqual(found, (min(known), expected), (tree, wants, folder))


class Examples(Checking):
    def test_those_of_the_document(self):
        self.assertEqual(
            moved(STAR, "i", "k"),
            (("r", None, False), ("j", "r", False), ("k", "r", False), ("i", "k", False)))
        self.assertEqual(places(TREE, WANTS, "l"), (3, ["i", "j", "k", "r", "x", "y"]))


class Moved(Checking):
    def test_all_moves_in_trees_of_up_to_four_folders(self):
        for many in (1, 2, 3, 4):
            for tree in trees(many):
                self.check_moves(tree)

    def test_all_moves_in_larger_trees(self):
        chance = random.Random(111)
        for tree in (TREE, STAR, LOCKED, chain(16), star(16), chain(16, locked=(3, 4, 9)), drawn_tree(chance, 16),
                     drawn_tree(chance, 16, lock=0.3, near=2), drawn_tree(chance, 20, lock=0.3)):
            self.check_moves(tree)

    def test_a_folder_takes_all_below_it_along(self):
        self.assertEqual(
            moved(TREE, "x", "l"),
            (("r", None, False), ("y", "r", False), ("k", "y", False), ("l", "y", False), ("x", "l", False),
             ("i", "x", False), ("j", "x", False)))

    def test_each_group_of_rows_keeps_its_order(self):
        tree = (("m", None, False), ("z", "m", False), ("b", "m", False), ("a", "z", False), ("d", "b", False),
                ("c", "a", True), ("aa", "b", True), ("y", "z", False))
        self.assertEqual(
            moved(tree, "z", "aa"),
            (("m", None, False), ("b", "m", False), ("d", "b", False), ("aa", "b", True), ("z", "aa", False),
             ("a", "z", False), ("c", "a", True), ("y", "z", False)))

    def test_to_the_parent_that_it_has_already(self):
        self.assertEqual(moved(STAR, "i", "r"), (STAR[0], STAR[2], STAR[3], STAR[1]))
        self.assertEqual(moved(STAR, "k", "r"), STAR)
        self.assertEqual(
            moved(TREE, "x", "r"), (TREE[0], TREE[2], TREE[5], TREE[6], TREE[1], TREE[3], TREE[4]))

    def test_a_parent_whose_row_stands_behind(self):
        self.assertEqual(moved(STAR, "i", "j"), (STAR[0], STAR[2], STAR[3], ("i", "j", False)))

    def test_locked_folders_stay_locked(self):
        self.assertEqual(
            moved(LOCKED, "c", "e"),
            (("r", None, False), ("a", "r", False), ("b", "a", True), ("e", "r", True), ("c", "e", True),
             ("d", "c", False)))
        self.assertEqual(moved(LOCKED, "e", "d"), LOCKED[:-1] + (("e", "d", True),))
        self.assertEqual(moved(LOCKED, "d", "e"), LOCKED[:4] + (LOCKED[5], ("d", "e", False)))

    def test_lists_become_tuples(self):
        found = moved(as_lists(STAR), "i", "k")
        self.assertEqual(found, moved(STAR, "i", "k"))
        self.assertIs(is_tree(found), True)

    def test_back_and_forth_is_the_same_tree_but_for_the_order(self):
        for folder, parent, first in (("x", "l", "r"), ("i", "k", "x"), ("y", "i", "r")):
            again = moved(moved(TREE, folder, parent), folder, first)
            self.assertEqual(sorted(again[1:]), sorted(TREE[1:]))
            self.assertEqual(again[0], TREE[0])

    def test_the_root(self):
        for tree in (ROOT, TREE, STAR, LOCKED):
            for parent, _, _ in tree:
                self.check_root(lambda: moved(tree, "r", parent))
                self.check_root(lambda: moved(as_lists(tree), "r", parent))

    def test_below_itself(self):
        for folder, parent in (("x", "x"), ("x", "i"), ("x", "j"), ("i", "i")):
            self.check_below(TREE, folder, parent)
            self.check_below(as_lists(TREE), folder, parent)
        for folder, parent in (("a", "a"), ("a", "b"), ("a", "c"), ("a", "d"), ("b", "d"), ("c", "c"), ("e", "e")):
            self.check_below(LOCKED, folder, parent)


class Places(Checking):
    def test_all_wants_in_trees_of_up_to_four_folders(self):
        known = {}

        def few(tree, wants):
            if tree not in known:
                known[tree] = counter(tree, ("a", "b"))
            return known[tree](wants)

        for many in (2, 3, 4):
            for tree in trees(many):
                for wants in all_wants(tree, ("a", "b")):
                    for name, _, _ in tree[1:]:
                        self.check_places(tree, wants, name, few)

    def test_drawn_wants_of_three_values(self):
        chance = random.Random(112)
        for k in range(40):
            tree = drawn_tree(chance, 5, lock=(0.0, 0.4)[k % 2])
            wants = drawn_wants(chance, tree, "abc", inner=(0.0, 0.4)[k % 4 // 2])
            for name, _, _ in tree[1:]:
                self.check_places(
                    tree, wants, name, lambda other, wishes: counter(other, ("a", "b", "c"))(wishes))

    def test_trees_at_the_bounds_and_beyond(self):
        chance = random.Random(113)
        for k in range(12):
            tree = drawn_tree(chance, (16, 18)[k % 2], lock=(0.0, 0.3)[k % 3 == 0], near=(None, 2)[k % 2])
            wants = drawn_wants(chance, tree, "abcdef", inner=0.2)
            for name, _, _ in tree[1:]:
                self.check_places(tree, wants, name, fewest)

    def test_without_wants_all_places_are_alike(self):
        for wants in ((), []):
            self.assertEqual(places(TREE, wants, "x"), (1, ["k", "l", "r", "y"]))
            self.assertEqual(places(LOCKED, wants, "a"), (1, ["e", "r"]))
            self.assertEqual(places(chain(2), wants, "ab"), (1, ["aa"]))

    def test_the_parent_that_it_has_counts_too(self):
        self.assertEqual(places(chain(2), (("aa", "a"), ("ab", "b")), "ab"), (2, ["aa"]))
        self.assertEqual(places(TREE, (("i", "a"), ("l", "b"), ("x", "a"), ("y", "b")), "i"), (2, ["j", "r", "x"]))

    def test_another_parent_is_better(self):
        wants = (("i", "a"), ("j", "b"), ("k", "a"))
        tree = (("r", None, False), ("i", "r", False), ("j", "i", False), ("k", "j", False))
        self.assertEqual(fewest(tree, wants), 3)
        self.assertEqual(places(tree, wants, "k"), (2, ["i", "r"]))
        self.assertEqual(places(tree, wants, "j"), (3, ["i", "r"]))

    def test_parents_by_which_there_is_a_clash_are_left_out(self):
        # e is locked, so it is tied to its parent.
        wants = (("a", "v"), ("e", "w"))
        self.assertEqual(places(LOCKED, wants, "e"), (2, ["d", "r"]))
        self.assertEqual(places(LOCKED, (("a", "v"), ("d", "w"), ("e", "w")), "e"), (2, ["d"]))

    def test_a_clash_that_only_a_move_mends(self):
        wants = (("e", "v"), ("r", "w"))
        self.assertIsNone(fewest(LOCKED, wants))
        self.assertEqual(places(LOCKED, wants, "e"), (2, ["a", "b", "c", "d"]))

    def test_a_clash_wherever_it_stands(self):
        wants = (("b", "v"), ("c", "w"))
        for folder in "abde":
            with self.assertRaises(Clashing) as caught:
                places(LOCKED, wants, folder)
            self.assertIsInstance(caught.exception, RuntimeError)
        self.assertEqual(places(LOCKED, wants, "c"), (2, ["e", "r"]))
        # x is locked, and whatever it is tied to wants another value.
        tree = (("r", None, False), ("x", "r", True), ("y", "r", False))
        with self.assertRaises(Clashing):
            places(tree, (("r", "a"), ("x", "b"), ("y", "c")), "x")

    def test_the_root_ahead_of_a_clash(self):
        for tree, wants in ((LOCKED, (("e", "v"), ("r", "w"))), (TREE, WANTS), (STAR, THREE), (ROOT, ())):
            self.check_root(lambda: places(tree, wants, "r"))
            self.check_root(lambda: places(as_lists(tree), as_lists(wants), "r"))

    def test_a_move_of_a_folder_that_is_not_locked_changes_one_setting_at_most(self):
        chance = random.Random(114)
        for k in range(30):
            tree = drawn_tree(chance, 12, lock=(0.0, 0.3)[k % 2])
            wants = drawn_wants(chance, tree, "abcd", inner=0.3)
            for name, _, is_locked in tree[1:]:
                if not is_locked:
                    found, parents = places(tree, wants, name)
                    self.assertIn(fewest(tree, wants) - found, (0, 1))
                    self.assertLess(0, len(parents))
                    for parent in parents_for(tree, name):
                        away = moved(tree, name, parent)
                        self.assertIsNone(clash(away, wants))
                        self.assertIn(fewest(away, wants) - fewest(tree, wants), (-1, 0, 1))

    def test_each_list_is_new(self):
        first, second = places(STAR, THREE, "i"), places(STAR, THREE, "i")
        self.assertIsNot(first[1], second[1])
        first[1].append("more")
        second[1].clear()
        self.assertEqual(places(STAR, THREE, "i"), (3, ["j", "k", "r"]))

    def test_parents_ascend_by_name(self):
        tree = (("m", None, False), ("z", "m", False), ("b", "m", False), ("aa", "z", False), ("c", "m", False))
        self.assertEqual(places(tree, (), "c"), (1, ["aa", "b", "m", "z"]))
        many = star(20)
        self.assertEqual(
            places(many, (), letters_name(19)), (1, [letters_name(k) for k in range(19)]))


if __name__ == "__main__":
    unittest.main()
