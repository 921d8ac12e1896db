"""[7], [2], [3]: is_reason, routes, shown."""

import random
import unittest
from itertools import combinations

from handeddown.routes import clash, fewest, fewest_plan, is_reason, routes, shown
from tests.brute import all_routes, fewest_of_all, holds_as_reason, least_clash, most_routes
from tests.samples import (
    ROOT, STAR, THREE, TREE, WANTS, all_wants, as_lists, chain, drawn_tree, drawn_wants, letters_name, mixed, star,
    trees)

# One way between i and k at the one side and j and l at the other one: up through x, down through y.
BRIDGE = (("r", None, False), ("x", "r", False), ("y", "r", False), ("i", "x", False), ("k", "x", False),
          ("j", "y", False), ("l", "y", False))


class Checking(unittest.TestCase):
    def check_yes(self, tree, wants, thing):
        self.assertIs(is_reason(tree, wants, thing), True, (tree, wants, thing))
        self.assertIs(is_reason(tree, wants, tuple(reversed(thing))), True)

    def check_no(self, tree, wants, thing):
        self.assertIs(is_reason(tree, wants, thing), False, (tree, wants, thing))
        if isinstance(thing, tuple):
            self.assertIs(is_reason(tree, wants, tuple(reversed(thing))), False)

    def check_routes(self, tree, wants, few):
        found = routes(tree, wants)
        self.check_form(found)
        self.assertEqual(len(found), few - 1, (tree, wants, found))
        self.assertEqual(list(found), sorted(set(found)))
        self.assertTrue(holds_as_reason(tree, wants, found), (tree, wants, found))
        self.assertIs(is_reason(tree, wants, found), True)
        self.assertEqual(shown(tree, wants, found), few)

    def check_form(self, found):
        self.assertIs(type(found), tuple)
        for route in found:
            self.assertIs(type(route), tuple)
            self.assertEqual(len(route), 2)


class Examples(Checking):
    def test_the_tree(self):
        self.assertEqual(len(routes(TREE, WANTS)), 2)
        self.check_yes(TREE, WANTS, (("i", "j"), ("k", "l")))
        self.check_routes(TREE, WANTS, 3)

    def test_the_star(self):
        self.check_yes(STAR, THREE, (("i", "j"), ("i", "k")))
        self.check_no(STAR, THREE, (("i", "j"), ("k", "j")))
        self.check_routes(STAR, THREE, 3)


class Pairs(Checking):
    def test_both_upwards(self):
        unlike = (("i", "a"), ("j", "b"), ("k", "a"), ("l", "c"))
        like = (("i", "a"), ("j", "b"), ("k", "a"), ("l", "b"))
        self.check_yes(BRIDGE, unlike, (("i", "j"), ("k", "l")))
        self.check_no(BRIDGE, like, (("i", "j"), ("k", "l")))

    def test_the_starts_do_not_matter(self):
        unlike = (("i", "a"), ("j", "b"), ("k", "d"), ("l", "c"))
        self.check_yes(BRIDGE, unlike, (("i", "j"), ("k", "l")))
        self.check_yes(BRIDGE, unlike, (("i", "j"), ("i", "l")))

    def test_both_downwards(self):
        tree = (("r", None, False), ("x", "r", False), ("i", "x", False), ("j", "x", False), ("s", "r", False))
        self.check_yes(tree, (("i", "a"), ("j", "b"), ("r", "c"), ("s", "d")), (("r", "i"), ("s", "j")))
        self.check_no(tree, (("i", "a"), ("j", "a"), ("r", "c"), ("s", "d")), (("r", "i"), ("s", "j")))
        self.check_no(tree, (("i", "a"), ("j", "b"), ("r", "c"), ("s", "d")), (("r", "i"), ("s", "i")))

    def test_one_upwards_and_one_downwards(self):
        # From i to j, and from l to k: x and y are passed both ways, the ends want the same value or not.
        self.check_yes(BRIDGE, (("i", "a"), ("j", "b"), ("k", "b"), ("l", "a")), (("i", "j"), ("l", "k")))
        self.check_no(BRIDGE, (("i", "a"), ("j", "b"), ("k", "c"), ("l", "a")), (("i", "j"), ("l", "k")))
        self.check_no(BRIDGE, (("i", "a"), ("j", "b"), ("k", "a"), ("l", "b")), (("i", "j"), ("l", "k")))

    def test_one_folder_passed_both_ways_is_enough(self):
        # x alone is passed by both: upwards by the way to r, downwards by that to j.
        tree = (("r", None, False), ("s", "r", False), ("x", "r", False), ("i", "x", False), ("j", "x", False))
        self.check_yes(tree, (("i", "b"), ("j", "a"), ("r", "a"), ("s", "c")), (("i", "r"), ("s", "j")))
        self.check_no(tree, (("i", "b"), ("j", "d"), ("r", "a"), ("s", "c")), (("i", "r"), ("s", "j")))
        self.check_no(tree, (("i", "b"), ("j", "c"), ("r", "a")), (("i", "r"), ("r", "j")))
        # At r itself, which no way passes, they may meet as they like.
        self.check_yes(tree, (("i", "b"), ("r", "a"), ("s", "c")), (("i", "r"), ("r", "s")))

    def test_at_a_locked_folder_nothing_is_asked(self):
        locked = tuple((name, parent, name in "xy") for name, parent, _ in BRIDGE)
        like = (("i", "a"), ("j", "b"), ("k", "a"), ("l", "b"))
        self.check_yes(locked, like, (("i", "j"), ("k", "l")))
        self.check_yes(locked, like, (("i", "j"), ("l", "k")))
        self.check_no(locked, like, (("i", "j"), ("k", "j")))
        self.check_no(locked, like, (("i", "j"), ("i", "l"), ("k", "j")))
        for name in "xy":
            half = tuple((row[0], row[1], row[0] == name) for row in BRIDGE)
            self.check_no(half, like, (("i", "j"), ("k", "l")))
            self.check_no(half, like, (("i", "j"), ("l", "k")))

    def test_the_topmost_folder_is_not_passed(self):
        # Both go over x, but neither goes from x to its parent.
        tree = (("r", None, False), ("x", "r", False), ("i", "x", False), ("j", "x", False), ("k", "x", False),
                ("l", "x", False))
        self.check_yes(tree, (("i", "a"), ("j", "b"), ("k", "a"), ("l", "b")), (("i", "j"), ("k", "l")))
        self.check_yes(tree, (("i", "a"), ("j", "b"), ("k", "a"), ("l", "b")), (("i", "j"), ("l", "k")))

    def test_ways_along_one_line(self):
        tree = chain(4)
        wants = (("aa", "a"), ("ab", "b"), ("ac", "a"), ("ad", "b"))
        self.check_yes(tree, wants, (("aa", "ab"), ("ab", "ac"), ("ac", "ad")))
        self.check_yes(tree, wants, (("ab", "aa"), ("ab", "ac"), ("ad", "ac")))
        self.check_no(tree, wants, (("aa", "ab"), ("aa", "ad")))
        self.check_no(tree, wants, (("aa", "ad"), ("ab", "ac"), ("ac", "ab")))
        self.check_no(tree, wants, (("aa", "ad"), ("ad", "aa")))

    def test_ways_that_meet_nowhere(self):
        self.check_yes(BRIDGE, (("i", "a"), ("j", "b"), ("k", "b"), ("l", "a")), (("i", "k"), ("j", "l")))
        self.check_yes(BRIDGE, (("i", "a"), ("j", "b"), ("k", "b"), ("l", "a")), (("i", "k"), ("l", "j")))

    def test_each_two_of_three_are_looked_at(self):
        good, bad = ("i", "j"), ("k", "l")
        like = (("i", "a"), ("j", "b"), ("k", "a"), ("l", "b"), ("r", "a"))
        for other in (("l", "r"), ("j", "r")):
            for thing in ((good, bad, other), (good, other, bad), (other, good, bad)):
                self.check_no(BRIDGE, like, thing)


class Routes(Checking):
    def test_no_routes_are_a_reason(self):
        for tree, wants in ((ROOT, ()), (TREE, WANTS), (TREE, ()), (STAR, (("i", "a"),))):
            self.check_yes(tree, wants, ())
            self.assertEqual(shown(tree, wants, ()), 1)
            self.assertEqual(shown(tree, wants, []), 1)

    def test_one_route(self):
        for route in all_routes(WANTS):
            self.check_yes(TREE, WANTS, (route,))
            self.assertEqual(shown(TREE, WANTS, (route,)), 2)

    def test_the_same_route_twice(self):
        self.check_no(TREE, WANTS, (("i", "j"), ("i", "j")))
        self.check_no(TREE, WANTS, (("i", "j"), ("k", "l"), ("i", "j")))
        # Also where it passes nothing that is not locked.
        tied = star(3, locked=(1, 2))
        clashing = (("ab", "v"), ("ac", "w"))
        self.check_yes(tied, clashing, (("ab", "ac"),))
        self.check_yes(tied, clashing, (("ab", "ac"), ("ac", "ab")))
        self.check_no(tied, clashing, (("ab", "ac"), ("ab", "ac")))

    def test_one_route_told_both_ways(self):
        self.check_no(TREE, WANTS, (("i", "j"), ("j", "i")))
        self.check_no(TREE, WANTS, (("k", "l"), ("i", "j"), ("j", "i")))

    def test_ends_that_want_the_same_value(self):
        self.check_no(TREE, WANTS, (("j", "k"),))
        self.check_no(TREE, WANTS, (("k", "j"),))
        self.check_no(TREE, WANTS, (("i", "j"), ("j", "k")))

    def test_a_folder_without_a_want(self):
        for folder in "rxy":
            self.check_no(TREE, WANTS, ((folder, "i"),))
            self.check_no(TREE, WANTS, (("i", folder),))
            self.check_no(TREE, WANTS, (("i", "j"), ("k", folder)))
        self.check_no(TREE, (), (("i", "j"),))

    def test_a_name_of_no_folder(self):
        for name in ("q", "", "I", "ii", "i ", "a", "\u00ef", "i\n"):
            self.check_no(TREE, WANTS, ((name, "i"),))
            self.check_no(TREE, WANTS, (("i", name),))

    def test_one_folder_twice(self):
        for folder in "ijkr":
            self.check_no(TREE, WANTS, ((folder, folder),))


class Things(Checking):
    def test_things_of_other_kinds(self):
        for thing in (0, 1, -1, True, False, None, "", "i", "ij", "()", [], [()], {}.get("x"), 10 ** 30):
            self.check_no(TREE, WANTS, thing)

    def test_lists_within(self):
        self.check_no(TREE, WANTS, [])
        self.check_no(TREE, WANTS, [("i", "j")])
        self.check_no(TREE, WANTS, (["i", "j"],))
        self.check_no(TREE, WANTS, [["i", "j"]])
        self.check_no(TREE, WANTS, (("i", "j"), ["k", "l"]))
        self.check_no(TREE, WANTS, (["i", "j"], ["i", "j"]))

    def test_other_items(self):
        for item in (0, 1, True, False, None, "", "i", "ij", (), [], ((),), ("i",), ("j",), ("i", "j", "k"),
                     ("i", "j", "i", "j"), (("i", "j"),), ("ij",), ["i", "j"]):
            self.check_no(TREE, WANTS, (item,))
            self.check_no(TREE, WANTS, (("i", "j"), item))
            self.check_no(TREE, WANTS, (item, item))

    def test_other_folders(self):
        for name in (0, 1, True, False, None, (), [], ("i",), ["i"], [["i"]], (["i"],), ("i", "j"), 10 ** 30):
            self.check_no(TREE, WANTS, ((name, "j"),))
            self.check_no(TREE, WANTS, (("i", name),))
            self.check_no(TREE, WANTS, ((name, name),))
            self.check_no(TREE, WANTS, (("i", "j"), (name, "k")))

    def test_the_routes_themselves_in_place_of_the_tuple_of_them(self):
        self.check_no(TREE, WANTS, ("i", "j"))
        self.check_no(TREE, WANTS, ((("i", "j"), ("k", "l")),))

    def test_nested_values(self):
        for inner in ((), [], 0, None, "i", ("i", "j")):
            deep_tuple, deep_list = inner, inner
            for _ in range(10):
                deep_tuple, deep_list = (deep_tuple,), [deep_list]
                for thing in (deep_tuple, deep_list, (deep_tuple, deep_list), (("i", "j"), deep_list)):
                    if thing != (("i", "j"),):
                        self.check_no(TREE, WANTS, thing)

    def test_beyond_the_bounds(self):
        many = 60
        tree = star(many + 1)
        wants = tuple((letters_name(k), letters_name(k)) for k in range(1, many + 1))
        self.check_yes(tree, wants, tuple(("ab", letters_name(k)) for k in range(2, many + 1)))
        self.check_no(tree, wants, tuple(all_routes(wants)))
        self.assertEqual(shown(tree, wants, tuple(all_routes(wants))), many * (many - 1) + 1)


class AllSmall(Checking):
    def test_all_sets_of_routes_in_trees_of_three_folders(self):
        for tree in trees(3):
            for wants in all_wants(tree, ("a", "b", "c")):
                self.check_sets(tree, wants)

    def test_all_sets_of_routes_of_two_values_in_trees_of_four_folders(self):
        for tree in trees(4):
            for wants in all_wants(tree, ("a", "b")):
                self.check_sets(tree, wants)

    def check_sets(self, tree, wants):
        every = all_routes(wants)
        for many in range(len(every) + 1):
            for thing in combinations(every, many):
                expected = holds_as_reason(tree, wants, thing)
                self.assertIs(is_reason(tree, wants, thing), expected, (tree, wants, thing))

    def test_drawn_pairs_of_routes_in_larger_trees(self):
        chance = random.Random(4)
        answers = []
        for _ in range(100):
            tree = drawn_tree(chance, 10, lock=0.4)
            folders = chance.sample(sorted(row[0] for row in tree), 7)
            wants = tuple(sorted((folder, chance.choice("abc")) for folder in folders))
            for pair in combinations(all_routes(wants), 2):
                answers.append(holds_as_reason(tree, wants, pair))
                self.assertIs(is_reason(tree, wants, pair), answers[-1], (tree, wants, pair))
        self.assertLess(1000, answers.count(True))
        self.assertLess(1000, answers.count(False))

    def test_routes_of_all_wants_in_small_trees(self):
        for many in (1, 2, 3):
            for tree in trees(many):
                for wants in all_wants(tree, ("a", "b", "c")):
                    self.check_most(tree, wants, ("a", "b", "c"))

    def test_routes_of_two_values_in_trees_of_four_folders(self):
        for tree in trees(4):
            for wants in all_wants(tree, ("a", "b")):
                self.check_most(tree, wants, ("a", "b"))

    def test_routes_of_drawn_wants_in_trees_of_five_to_seven_folders(self):
        chance = random.Random(5)
        for k in range(150):
            tree = drawn_tree(chance, 5 + k % 3, lock=(0.0, 0.3)[k % 2])
            self.check_most(tree, drawn_wants(chance, tree, "abc", inner=0.4), ("a", "b", "c"))

    def check_most(self, tree, wants, values):
        few = fewest_of_all(tree, wants, values)
        if least_clash(tree, wants) is not None:
            self.assertIsNone(routes(tree, wants), (tree, wants))
            return
        self.check_routes(tree, wants, few)
        self.assertEqual(most_routes(tree, wants), few - 1, (tree, wants))


class Found(Checking):
    def test_none_where_one_setting_is_enough(self):
        for tree in (ROOT, TREE, STAR, chain(16), star(16), chain(8, locked=range(1, 8))):
            self.assertEqual(routes(tree, ()), ())
            self.assertEqual(routes(tree, []), ())
            self.assertEqual(routes(tree, ((tree[-1][0], "v"),)), ())
            everyone = tuple(sorted((row[0], "v") for row in tree))
            self.assertEqual(routes(tree, everyone), ())

    def test_none_exactly_if_there_is_a_clash(self):
        tree = star(4, locked=(1, 2))
        self.assertIsNone(routes(tree, (("ab", "v"), ("ac", "w"))))
        self.assertIsNone(routes(tree, (("aa", "v"), ("ac", "w"), ("ad", "v"))))
        self.assertIsNone(routes(as_lists(tree), [["ab", "v"], ["ac", "w"]]))
        self.check_routes(tree, (("ab", "v"), ("ac", "v"), ("ad", "w")), 2)

    def test_wants_that_are_tied_start_and_end_where_they_are_wanted(self):
        # Neither r nor x has a want: both ends stand below locked folders.
        tree = (("r", None, False), ("x", "r", False), ("a", "r", True), ("b", "a", True), ("c", "x", True),
                ("d", "c", True))
        wants = (("b", "v"), ("d", "w"))
        self.check_routes(tree, wants, 2)
        self.assertIn(routes(tree, wants), ((("b", "d"),), (("d", "b"),)))
        self.check_routes(tree, (("a", "v"), ("b", "v"), ("c", "w"), ("d", "w")), 2)

    def test_wants_at_inner_folders_and_at_the_root(self):
        tree = chain(6)
        self.check_routes(tree, tuple(zip([row[0] for row in tree], "ababab")), 6)
        self.check_routes(tree, tuple(zip([row[0] for row in tree], "abcdef")), 6)
        self.check_routes(TREE, (("i", "a"), ("j", "b"), ("k", "b"), ("l", "c"), ("r", "a"), ("x", "c")), 6)

    def test_many_branches_of_all_values(self):
        rows, wants = [("r", None, False)], []
        for group in "abc":
            rows.append((group, "r", False))
            for leaf in "uvwxyz":
                rows.append((group + leaf, group, False))
                wants.append((group + leaf, leaf))
        self.check_routes(tuple(rows), tuple(wants), fewest(rows, wants))
        self.assertEqual(fewest(rows, wants), 16)

    def test_drawn_trees_of_sixteen_folders_and_six_values(self):
        chance = random.Random(6)
        counts = []
        for k in range(400):
            tree = drawn_tree(chance, chance.choice((9, 13, 16)), lock=(0.0, 0.2, 0.5)[k % 3],
                              near=(None, 1, 2, 3, 6)[k % 5])
            wants = drawn_wants(chance, tree, "abcdef"[:2 + k % 5], inner=(0.0, 0.2, 0.6)[k // 3 % 3])
            self.assertIsNone(clash(tree, wants))
            counts.append(fewest(tree, wants))
            self.assertEqual(len(fewest_plan(tree, wants)), counts[-1])
            self.check_routes(tree, wants, counts[-1])
        self.assertLess(9, max(counts))

    def test_larger_trees(self):
        chance = random.Random(7)
        for k in range(20):
            tree = drawn_tree(chance, 18 + k, lock=0.2, near=(None, 4)[k % 2])
            wants = drawn_wants(chance, tree, "abcdefgh", inner=0.3)
            self.check_routes(tree, wants, fewest(tree, wants))
        for many in (16, 40):
            wants = tuple((letters_name(k), "abcdefgh"[k % 8]) for k in range(many))
            self.check_routes(chain(many), wants, many)
            self.check_routes(star(many), wants, fewest(star(many), wants))


class Shown(Checking):
    def test_one_more_than_the_routes(self):
        self.assertEqual(shown(TREE, WANTS, (("i", "j"), ("k", "l"))), 3)
        self.assertEqual(shown(TREE, WANTS, (("k", "l"),)), 2)
        self.assertEqual(shown(STAR, THREE, (("i", "j"), ("i", "k"))), 3)

    def test_no_more_are_shown_than_there_are(self):
        chance = random.Random(8)
        for _ in range(50):
            tree = drawn_tree(chance, 8, lock=0.3)
            wants = drawn_wants(chance, tree, "abc")
            for many in range(3):
                for thing in combinations(all_routes(wants), many):
                    if is_reason(tree, wants, thing):
                        self.assertLessEqual(shown(tree, wants, thing), fewest(tree, wants))


class Arguments(Checking):
    def test_lists_for_tuples_at_any_depth(self):
        for tree, wants in ((TREE, WANTS), (STAR, THREE), (BRIDGE, (("i", "a"), ("j", "b"), ("k", "b")))):
            found = routes(tree, wants)
            for form in (list, as_lists, mixed):
                again = routes(form(tree), form(wants))
                self.check_form(again)
                self.assertEqual(again, found)
                self.assertIs(is_reason(form(tree), form(wants), found), True)
                self.assertIs(is_reason(form(tree), form(wants), found + found), False)
                self.assertEqual(shown(form(tree), form(wants), form(found)), len(found) + 1)
            for form in (list, as_lists, mixed):
                self.assertIs(is_reason(tree, wants, form(found)), False)

    def test_arguments_by_their_names(self):
        self.assertEqual(routes(wants=WANTS, tree=TREE), routes(TREE, WANTS))
        self.assertIs(is_reason(thing=(("i", "j"),), wants=WANTS, tree=TREE), True)
        self.assertIs(is_reason(wants=WANTS, thing=(("i", "i"),), tree=TREE), False)
        self.assertEqual(shown(reason=(("i", "j"),), wants=WANTS, tree=TREE), 2)

    def test_nothing_that_is_passed_in_is_changed(self):
        tree, wants, reason = as_lists(TREE), as_lists(WANTS), [["i", "j"]]
        thing = [["i", "j"], ("k", "l")]
        routes(tree, wants)
        shown(tree, wants, reason)
        is_reason(tree, wants, thing)
        is_reason(tree, wants, (("i", "j"), ("k", "l")))
        self.assertEqual((tree, wants, reason), (as_lists(TREE), as_lists(WANTS), [["i", "j"]]))
        self.assertEqual(thing, [["i", "j"], ("k", "l")])

    def test_the_same_call_twice_gives_equal_results(self):
        chance = random.Random(9)
        for _ in range(30):
            tree = drawn_tree(chance, 12, lock=0.2)
            wants = drawn_wants(chance, tree, "abcd", inner=0.3)
            found = routes(tree, wants)
            self.assertEqual(routes(tree, wants), found)
            self.assertEqual(routes(as_lists(tree), as_lists(wants)), found)
            self.assertEqual(routes(wants=mixed(wants), tree=mixed(tree)), found)
            self.assertEqual(is_reason(tree, wants, found), is_reason(mixed(tree), as_lists(wants), found))


if __name__ == "__main__":
    unittest.main()
