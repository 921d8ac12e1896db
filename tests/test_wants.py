"""[10]: spared, core, costs."""

import random
import unittest

from handeddown.data import are_wants
from handeddown.errors import Clashing
from handeddown.routes import clash, fewest
from handeddown.wants import core, costs, spared
from tests.brute import are_tied, counter, least_clash, least_core
from tests.samples import (
    LOCKED, ROOT, STAR, THREE, TREE, WANTS, all_wants, chain, drawn_tree, drawn_wants, leaves, letters_name, star,
    trees)

# What is wanted in no test that takes it for the value that nobody wants.
NEW = "z"


class Checking(unittest.TestCase):
    def check(self, tree, wants, few):
        """All three, where few tells the fewest settings for any wants."""
        if few(wants) is None:
            self.check_clash(tree, wants)
            return
        self.check_spared(tree, wants, few)
        self.check_core(tree, wants, few)
        for folder in sorted({row[0] for row in tree} - {folder for folder, _ in wants}):
            self.check_costs(tree, wants, folder, few)

    def check_clash(self, tree, wants):
        self.assertIsNotNone(clash(tree, wants))
        calls = [lambda: spared(tree, wants), lambda: core(tree, wants)]
        for name, _, _ in tree:
            if name not in dict(wants):
                calls.append(lambda name=name: costs(tree, wants, name))
        for call in calls:
            with self.assertRaises(Clashing) as caught:
                call()
            self.assertIs(type(caught.exception), Clashing)
            self.assertIsInstance(caught.exception, RuntimeError)

    def check_spared(self, tree, wants, few):
        found = spared(tree, wants)
        self.assertIs(type(found), list)
        expected = [
            folder for folder, _ in wants if few(want for want in wants if want[0] != folder) < few(wants)]
        self.assertEqual(found, sorted(expected), (tree, wants))

    def check_core(self, tree, wants, few):
        found = core(tree, wants)
        self.assertEqual(found, least_core(wants, few), (tree, wants))
        self.check_own_core(tree, wants, found)

    def check_own_core(self, tree, wants, found):
        """What is so of each core."""
        self.assertIs(type(found), tuple)
        for pair in found:
            self.assertIs(type(pair), tuple)
            self.assertIn(pair, wants)
        self.assertIs(are_wants(tree, found), True)
        self.assertEqual(fewest(tree, found), fewest(tree, wants))
        self.assertEqual(core(tree, found), found)
        self.assertEqual(spared(tree, found), [folder for folder, _ in found])

    def check_costs(self, tree, wants, folder, few):
        more = few(sorted(wants + ((folder, NEW),)))
        found = costs(tree, wants, folder)
        self.assertEqual(found, None if more is None else more - few(wants), (tree, wants, folder))
        self.assertIs(type(found), type(None) if more is None else int)
        is_tied = any(are_tied(tree, folder, other) for other, _ in wants)
        self.assertEqual(found is None, is_tied, (tree, wants, folder))


class Examples(Checking):
    def test_those_of_the_document(self):
        self.assertEqual(spared(TREE, WANTS), ["i", "l"])
        self.assertEqual(core(TREE, WANTS), (("i", "a"), ("j", "b"), ("l", "c")))
        self.assertEqual(costs(TREE, WANTS, "x"), 2)
        self.assertEqual(costs(STAR, THREE, "r"), 1)


class Small(Checking):
    def test_all_wants_of_two_values_in_trees_of_up_to_four_folders(self):
        for many in (1, 2, 3, 4):
            for tree in trees(many):
                few = counter(tree, ("a", "b", NEW))
                for wants in all_wants(tree, ("a", "b")):
                    self.check(tree, wants, few)

    def test_all_wants_of_three_values_in_trees_of_three_folders(self):
        for tree in trees(3):
            few = counter(tree, ("a", "b", "c", NEW))
            for wants in all_wants(tree, ("a", "b", "c")):
                self.check(tree, wants, few)

    def test_drawn_wants_in_trees_of_six_folders(self):
        chance = random.Random(101)
        for k in range(40):
            tree = drawn_tree(chance, 6, lock=(0.0, 0.0, 0.3)[k % 3], near=(None, 1, 2)[k % 4 // 2])
            few = counter(tree, ("a", "b", "c", NEW))
            for inner in (0.0, 0.3, 0.8):
                self.check(tree, drawn_wants(chance, tree, "abc", inner), few)

    def test_drawn_wants_at_any_folders_also_with_a_clash(self):
        chance = random.Random(102)
        clashes = 0
        for _ in range(40):
            tree = drawn_tree(chance, 6, lock=0.3)
            few = counter(tree, ("a", "b", "c", NEW))
            for many in range(1, 6):
                folders = chance.sample(sorted(row[0] for row in tree), many)
                wants = tuple(sorted((folder, chance.choice("abc")) for folder in folders))
                clashes += least_clash(tree, wants) is not None
                self.check(tree, wants, few)
        self.assertLess(20, clashes)
        self.assertLess(clashes, 180)

    def test_stars_of_several_values(self):
        # By these the least one of several cores leaves out what stands behind, and a core may be all.
        few = counter(star(7), ("a", "b", "c", NEW))
        names = leaves(star(7))
        for values in ("aaabbc", "abcabc", "cbaaab", "aaaabb", "aaaaaa", "abbccc", "ccbbaa"):
            self.check(star(7), tuple(zip(names, values)), few)


class Spared(Checking):
    def test_none_of_no_wants_or_of_one(self):
        for tree in (ROOT, TREE, STAR, LOCKED):
            for wants in ((), [], (("r", "a"),)):
                self.assertEqual(spared(tree, wants), [])

    def test_none_of_alike_wants(self):
        self.assertEqual(spared(TREE, tuple((row[0], "a") for row in sorted(TREE))), [])

    def test_both_of_two_unlike_ones(self):
        self.assertEqual(spared(STAR, (("i", "a"), ("j", "b"))), ["i", "j"])
        self.assertEqual(spared(STAR, (("i", "a"), ("r", "b"))), ["i", "r"])

    def test_neither_of_tied_folders_that_agree(self):
        wants = (("a", "v"), ("c", "v"), ("r", "w"))
        self.assertEqual(spared(LOCKED, wants), ["r"])
        self.assertEqual(spared(LOCKED, wants[1:]), ["c", "r"])
        self.assertEqual(spared(LOCKED, wants[:2]), [])

    def test_they_ascend_by_name_whatever_the_order_of_the_rows_is(self):
        tree = (("r", None, False), ("z", "r", False), ("b", "r", False), ("aa", "r", False))
        self.assertEqual(spared(tree, (("aa", "u"), ("b", "v"), ("z", "w"))), ["aa", "b", "z"])

    def test_a_want_between_alike_ones_saves_two(self):
        tree = chain(3)
        wants = (("aa", "a"), ("ab", "b"), ("ac", "a"))
        self.assertEqual(fewest(tree, wants), 3)
        self.assertEqual(spared(tree, wants), ["aa", "ab", "ac"])
        self.assertEqual(fewest(tree, (wants[0], wants[2])), 1)


class Core(Checking):
    def test_none_of_no_wants(self):
        for tree in (ROOT, TREE, STAR, LOCKED):
            for wants in ((), []):
                self.assertEqual(core(tree, wants), ())
                self.assertIs(type(core(tree, wants)), tuple)

    def test_none_of_wants_that_one_setting_serves(self):
        self.assertEqual(core(TREE, (("i", "a"),)), ())
        self.assertEqual(core(TREE, (("i", "a"), ("l", "a"), ("r", "a"))), ())

    def test_the_least_of_several(self):
        self.assertEqual(core(STAR, (("i", "a"), ("j", "a"), ("k", "b"))), (("i", "a"), ("k", "b")))
        self.assertEqual(core(STAR, (("i", "a"), ("j", "b"), ("k", "b"))), (("i", "a"), ("j", "b")))
        self.assertEqual(core(LOCKED, (("a", "v"), ("b", "v"), ("d", "w"))), (("a", "v"), ("d", "w")))

    def test_the_least_one_compares_folders_not_values(self):
        # i stands ahead of j, though it wants the greater value.
        wants = (("i", "z"), ("j", "a"), ("k", "z"))
        self.assertEqual(core(STAR, wants), (("i", "z"), ("j", "a")))

    def test_all_where_none_can_be_given_up(self):
        self.assertEqual(core(STAR, THREE), THREE)
        self.assertEqual(core(chain(3), (("aa", "a"), ("ab", "b"), ("ac", "a"))),
                         (("aa", "a"), ("ab", "b"), ("ac", "a")))

    def test_more_wants_than_settings_may_be_needed(self):
        tree = (("r", None, False), ("x", "r", False), ("y", "r", False), ("i", "x", False), ("j", "x", False),
                ("k", "y", False), ("l", "y", False))
        wants = (("i", "a"), ("j", "b"), ("k", "a"), ("l", "b"))
        self.assertEqual(fewest(tree, wants), 3)
        self.assertEqual(core(tree, wants), wants)
        self.assertEqual(spared(tree, wants), ["i", "j", "k", "l"])

    def test_a_want_of_the_core_need_not_be_spared(self):
        tree = (("r", None, False),) + tuple((name, "r", False) for name in "ijklmno")
        wants = (("i", "a"), ("j", "a"), ("k", "b"), ("l", "b"), ("m", "a"), ("n", "b"), ("o", "b"))
        self.assertEqual(fewest(tree, wants), 4)
        # One of those that want b can be given up without saving a setting, but no more of them.
        self.assertEqual(spared(tree, wants), ["i", "j", "m"])
        self.assertEqual(core(tree, wants), wants[:-1])

    def test_nine_wants_in_trees_of_sixteen_folders(self):
        chance = random.Random(103)
        for k in range(60):
            tree = drawn_tree(chance, 16, lock=(0.0, 0.2)[k % 2], near=(None, 1, 2, 4)[k % 4])
            folders = chance.sample(sorted(row[0] for row in tree), 9)
            wants = tuple(sorted((folder, chance.choice("abcdef"[:2 + k % 5])) for folder in folders))
            if clash(tree, wants) is None:
                found = core(tree, wants)
                self.check_own_core(tree, wants, found)
                if k % 3 == 0:
                    self.assertEqual(found, least_core(wants, lambda some: fewest(tree, some)))

    def test_some_more_wants_than_nine(self):
        chance = random.Random(104)
        for k in range(24):
            tree = drawn_tree(chance, 18, near=(None, 1, 3)[k % 3])
            folders = chance.sample(sorted(row[0] for row in tree), 12)
            wants = tuple(sorted((folder, chance.choice("abcdefgh"[:2 + k % 7])) for folder in folders))
            self.check_own_core(tree, wants, core(tree, wants))


class Costs(Checking):
    def test_nothing_without_wants(self):
        for tree in (ROOT, TREE, STAR, LOCKED, chain(16), star(16)):
            for name, _, _ in tree:
                for wants in ((), []):
                    self.assertEqual(costs(tree, wants, name), 0)
                    self.assertIs(type(costs(tree, wants, name)), int)

    def test_the_root(self):
        self.assertEqual(costs(TREE, (("i", "a"),), "r"), 1)
        self.assertEqual(costs(TREE, (("i", "a"), ("l", "a")), "r"), 2)
        self.assertEqual(costs(STAR, (("i", "a"), ("j", "a"), ("k", "a")), "r"), 3)
        self.assertEqual(costs(STAR, (("i", "a"), ("j", "a"), ("k", "b")), "r"), 2)

    def test_leaves_and_folders_between(self):
        self.assertEqual(costs(TREE, WANTS, "y"), 2)
        self.assertEqual(costs(STAR, (("i", "a"), ("j", "a")), "k"), 1)
        self.assertEqual(costs(STAR, (("r", "a"),), "k"), 1)
        self.assertEqual(costs(chain(3), (("aa", "a"), ("ac", "a")), "ab"), 2)
        self.assertEqual(costs(chain(3), (("aa", "a"), ("ac", "b")), "ab"), 1)
        self.assertEqual(costs(chain(3), (("aa", "a"), ("ab", "a")), "ac"), 1)

    def test_locked_folders(self):
        # a, b and c are tied, and so are e and r.
        self.assertEqual(costs(LOCKED, (("d", "v"), ("e", "w")), "c"), 1)
        self.assertEqual(costs(LOCKED, (("d", "v"), ("e", "v")), "b"), 2)
        self.assertEqual(costs(LOCKED, (("d", "v"),), "e"), 1)
        self.assertEqual(costs(LOCKED, (("a", "v"), ("d", "v")), "e"), 1)

    def test_none_where_it_is_tied_to_one_with_a_want(self):
        for folder in "bc":
            self.assertIsNone(costs(LOCKED, (("a", "v"), ("d", "v")), folder))
        self.assertIsNone(costs(LOCKED, (("b", "v"),), "a"))
        self.assertIsNone(costs(LOCKED, (("e", "v"),), "r"))
        self.assertIsNone(costs(LOCKED, (("r", "v"),), "e"))
        self.assertEqual(costs(LOCKED, (("c", "v"),), "d"), 1)
        self.assertEqual(costs(LOCKED, (("d", "v"),), "c"), 1)

    def test_each_value_of_one_letter_is_wanted_already(self):
        tree = star(28)
        names = leaves(tree)
        wants = tuple(zip(names[:26], "abcdefghijklmnopqrstuvwxyz"))
        self.assertEqual(fewest(tree, wants), 26)
        self.assertEqual(costs(tree, wants, "aa"), 1)
        self.assertEqual(costs(tree, wants, names[26]), 1)
        again = tuple(zip(names, "abcdefghijklmnopqrstuvwxyza"))
        self.assertEqual(costs(tree, again, "aa"), 2)

    def test_values_that_a_program_might_think_of_are_wanted_already(self):
        likely = ("a", "aa", "aaaaaaaa", "any", "fresh", "new", "nobody", "none", "other", "q", "unwanted", "x", "y",
                  "z", "za", "zz", "zzzzzzzz")
        for value in likely:
            self.assertEqual(costs(STAR, (("i", value), ("j", value)), "r"), 2)
            self.assertEqual(costs(STAR, (("i", value), ("j", value)), "k"), 1)
        tree = star(len(likely) + 2)
        wants = tuple(zip(leaves(tree), likely))
        self.assertEqual(costs(tree, wants, "aa"), 1)
        self.assertEqual(costs(tree, wants, letters_name(len(likely) + 1)), 1)


class Clashes(Checking):
    def test_tied_folders_of_unlike_wants(self):
        for wants in ((("a", "v"), ("c", "w")), (("b", "w"), ("c", "v")), (("e", "v"), ("r", "w")),
                      (("a", "v"), ("b", "v"), ("c", "w"), ("d", "v"))):
            self.check_clash(LOCKED, wants)

    def test_the_error_has_its_class_alone(self):
        for call in (lambda wants: spared(LOCKED, wants), lambda wants: core(LOCKED, wants),
                     lambda wants: costs(LOCKED, wants, "d")):
            with self.assertRaises(Clashing):
                call([["e", "v"], ["r", "w"]])
            # Alike wants of tied folders are no clash.
            call([["e", "v"], ["r", "v"]])


if __name__ == "__main__":
    unittest.main()
