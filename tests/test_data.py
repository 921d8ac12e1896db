"""[4], [2], [3]: is_tree, are_wants, is_plan."""

import copy
import unittest

from handeddown.data import are_wants, is_plan, is_tree
from tests.samples import NO_NAMES, PLAN, TREE, WANTS, all_wants, as_lists, chain, mixed, plans, star, trees

ROOT = ("r", None, False)

# A folder's name is wanted here and there, so these are told apart from TREEs, WANTS and PLANs by their kind.
OTHER_KINDS = (
    None, True, False, 0, 1, -1, 7, 10 ** 40, "", "r", "root r", "abc", [], [[]], [()], ((),), ([],), ((), ()),
    (None,), (True,), (False,), (0,), (1, 2, 3), ("r",), ("ra",), ("rab",), ("r", "a"), ("r", None, False),
    ["r", None, False], (None, None, None), ("ra", "xb"), ("rab", "xab"),
)


def nested(core, levels, kind=tuple):
    """The core within so many tuples or lists."""
    for _ in range(levels):
        core = kind([core])
    return core


class Telling(unittest.TestCase):
    """What is told is True or False itself."""

    def right_tree(self, thing):
        self.assertIs(is_tree(thing), True, thing)

    def wrong_tree(self, thing):
        self.assertIs(is_tree(thing), False, thing)

    def right_wants(self, tree, thing):
        self.assertIs(are_wants(tree, thing), True, thing)

    def wrong_wants(self, tree, thing):
        self.assertIs(are_wants(tree, thing), False, thing)

    def right_plan(self, tree, thing):
        self.assertIs(is_plan(tree, thing), True, thing)

    def wrong_plan(self, tree, thing):
        self.assertIs(is_plan(tree, thing), False, thing)

    def wrong_pairs(self, tree, thing):
        self.wrong_wants(tree, thing)
        self.wrong_plan(tree, thing)


class RightTrees(Telling):
    def test_the_example(self):
        self.right_tree(TREE)

    def test_a_root_alone(self):
        self.right_tree((ROOT,))
        self.right_tree((("abcdefgh", None, False),))

    def test_all_small_shapes_and_locks(self):
        for many in (1, 2, 3, 4):
            for tree in trees(many):
                self.right_tree(tree)

    def test_locked_folders_at_any_depth(self):
        self.right_tree((ROOT, ("x", "r", True)))
        self.right_tree((ROOT, ("x", "r", True), ("y", "x", True), ("z", "y", False), ("w", "z", True)))
        self.right_tree(chain(10, locked=range(1, 10)))
        self.right_tree(star(10, locked=range(1, 10)))

    def test_chains_and_stars_up_to_the_bound_and_beyond(self):
        for many in (2, 15, 16, 17, 20, 40, 300):
            self.right_tree(chain(many))
            self.right_tree(star(many, locked=(1, many - 1)))

    def test_rows_need_not_ascend_nor_stand_by_depth(self):
        self.right_tree((("z", None, False), ("b", "z", False), ("c", "b", True), ("a", "z", False), ("d", "c", False)))

    def test_all_letters_and_all_lengths_of_names(self):
        for letter in "abcdefghijklmnopqrstuvwxyz":
            for length in range(1, 9):
                self.right_tree(((letter * length, None, False),))
        self.right_tree((ROOT, ("abcdefgh", "r", False), ("zyxwvuts", "abcdefgh", True)))

    def test_words_of_the_package_are_names_like_others(self):
        self.right_tree((("root", None, False), ("none", "root", False), ("locked", "none", True)))


class WrongTrees(Telling):
    def test_no_rows(self):
        self.wrong_tree(())

    def test_other_kinds(self):
        for thing in OTHER_KINDS:
            self.wrong_tree(thing)

    def test_nested_values(self):
        for levels in range(1, 12):
            for kind in (tuple, list):
                self.wrong_tree(nested("r", levels, kind))
                self.wrong_tree(nested((), levels, kind))
        for levels in range(1, 10):
            self.wrong_tree(nested(ROOT, levels + 1))
            self.wrong_tree(nested(TREE, levels))

    def test_rows_of_the_wrong_length(self):
        for row in ((), ("r",), ("r", None), ("r", None, False, False), ("r", None, False, None)):
            self.wrong_tree((row,))
        for row in ((), ("x",), ("x", "r"), ("x", "r", False, False), ("x", "r", True, "y"), ("x", False)):
            self.wrong_tree((ROOT, row))
            self.wrong_tree((ROOT, ("y", "r", False), row))

    def test_rows_that_are_no_tuples(self):
        for row in (None, True, False, 0, 3, "", "r", "xrn", "xr", ["x", "r", False]):
            self.wrong_tree((row,))
            self.wrong_tree((ROOT, row))
            self.wrong_tree((ROOT, row, ("y", "r", False)))

    def test_names_that_are_no_names(self):
        for name in NO_NAMES:
            self.wrong_tree(((name, None, False),))
            self.wrong_tree((ROOT, (name, "r", False)))
            self.wrong_tree((ROOT, (name, "r", False), ("y", name, False)))
            self.wrong_tree((ROOT, ("y", "r", True), (name, "y", True)))
            self.wrong_tree(((name, None, False), ("y", name, False)))

    def test_parents_that_are_no_names(self):
        for parent in NO_NAMES:
            self.wrong_tree((ROOT, ("x", parent, False)))
            self.wrong_tree((ROOT, ("x", "r", False), ("y", parent, True)))

    def test_a_name_twice(self):
        self.wrong_tree((ROOT, ROOT))
        self.wrong_tree((ROOT, ("r", "r", False)))
        self.wrong_tree((ROOT, ("x", "r", False), ("x", "r", False)))
        self.wrong_tree((ROOT, ("x", "r", False), ("x", "r", True)))
        self.wrong_tree((ROOT, ("x", "r", False), ("y", "x", False), ("x", "y", False)))
        self.wrong_tree((ROOT, ("x", "r", False), ("y", "x", False), ("r", "y", False)))
        self.wrong_tree(TREE + (("i", "y", False),))

    def test_a_root_that_is_locked(self):
        self.wrong_tree((("r", None, True),))
        self.wrong_tree((("r", None, True), ("x", "r", False)))

    def test_a_root_with_a_parent(self):
        for parent in ("r", "x", "", False, 0, "None", (), []):
            self.wrong_tree((("r", parent, False),))
            self.wrong_tree((("r", parent, False), ("x", "r", False)))

    def test_a_root_that_stands_later(self):
        self.wrong_tree((("x", "r", False), ROOT))

    def test_a_parent_of_no_row(self):
        self.wrong_tree((ROOT, ("x", "s", False)))
        self.wrong_tree((ROOT, ("x", "rr", False)))
        self.wrong_tree(TREE + (("m", "n", False),))

    def test_a_parent_of_a_later_row(self):
        self.wrong_tree((ROOT, ("x", "y", False), ("y", "r", False)))
        self.wrong_tree((ROOT, ("x", "y", False), ("y", "x", False)))
        self.wrong_tree((ROOT, ("a", "r", False), ("b", "c", True), ("c", "a", False)))

    def test_a_parent_of_the_row_itself(self):
        self.wrong_tree((ROOT, ("x", "x", False)))
        self.wrong_tree(TREE + (("m", "m", True),))

    def test_none_as_the_parent_of_a_later_row(self):
        self.wrong_tree((ROOT, ("x", None, False)))
        self.wrong_tree((ROOT, ("x", "r", False), ("y", None, False)))
        self.wrong_tree((ROOT, ("x", "r", False), ("y", None, True)))

    def test_is_locked_that_is_no_truth(self):
        for is_locked in (0, 1, -1, 2, None, "", "False", "True", "locked", "x", (), [], (True,), [False]):
            self.wrong_tree((("r", None, is_locked),))
            self.wrong_tree((("r", None, is_locked), ("x", "r", False)))
            self.wrong_tree((ROOT, ("x", "r", is_locked)))
            self.wrong_tree((ROOT, ("x", "r", False), ("y", "x", is_locked)))

    def test_lists_in_place_of_tuples(self):
        for tree in (TREE, (ROOT,), chain(4), star(5, locked=(2,))):
            self.wrong_tree(list(tree))
            self.wrong_tree(as_lists(tree))
            for k in range(len(tree)):
                self.wrong_tree(tree[:k] + (list(tree[k]),) + tree[k + 1:])

    def test_one_wrong_row_at_any_place(self):
        for k in range(1, len(TREE)):
            self.wrong_tree(TREE[:k] + (("m", "nobody", False),) + TREE[k:])
            self.wrong_tree(TREE[:k] + (("M", "r", False),) + TREE[k:])
            self.wrong_tree(TREE[:k] + (("m", "r", 1),) + TREE[k:])
        self.right_tree(TREE + (("m", "r", True),))


class RightPairs(Telling):
    def test_the_example(self):
        self.right_wants(TREE, WANTS)
        self.wrong_plan(TREE, (("i", "a"),))
        self.right_plan(TREE, (("i", "a"), ("r", "b")))
        self.right_plan(TREE, PLAN)

    def test_no_pairs_are_wants_and_no_plan(self):
        for tree in (TREE, (ROOT,)):
            self.right_wants(tree, ())
            self.wrong_plan(tree, ())

    def test_a_root_alone(self):
        for value in ("a", "r", "abcdefgh", "zzzzzzzz"):
            self.right_wants((ROOT,), (("r", value),))
            self.right_plan((ROOT,), (("r", value),))

    def test_a_want_at_a_locked_folder_that_no_plan_writes(self):
        tree = (ROOT, ("x", "r", True), ("y", "x", False), ("z", "y", True))
        for thing in ((("r", "a"), ("x", "a")), (("r", "a"), ("z", "b")), (("r", "a"), ("x", "b"), ("y", "c"))):
            self.right_wants(tree, thing)
            self.wrong_plan(tree, thing)
        self.right_wants(tree, (("r", "a"), ("y", "c")))
        self.right_plan(tree, (("r", "a"), ("y", "c")))

    def test_a_plan_has_the_root(self):
        self.right_wants(TREE, PLAN[:2] + PLAN[3:])
        self.wrong_plan(TREE, PLAN[:2] + PLAN[3:])
        self.wrong_plan(TREE, tuple((row[0], "a") for row in sorted(TREE) if row[0] != "r"))
        self.right_plan(TREE, tuple((row[0], "a") for row in sorted(TREE)))

    def test_the_root_is_the_first_row_whatever_its_name(self):
        tree = (("x", None, False), ("r", "x", False), ("a", "r", False))
        self.right_plan(tree, (("x", "a"),))
        self.right_plan(tree, (("a", "b"), ("x", "a")))
        self.wrong_plan(tree, (("r", "a"),))
        self.wrong_plan(tree, (("a", "x"), ("r", "x")))

    def test_all_pairs_of_small_trees(self):
        for many in (1, 2, 3):
            for tree in trees(many):
                right = set(plans(tree, ("a", "b")))
                for thing in all_wants(tree, ("a", "b")):
                    self.right_wants(tree, thing)
                    self.assertIs(is_plan(tree, thing), thing in right, (tree, thing))

    def test_more_values_and_folders_than_the_bounds(self):
        for tree in (chain(16), star(16), chain(40), star(40)):
            thing = tuple((row[0], row[0]) for row in tree)
            self.right_wants(tree, thing)
            self.right_plan(tree, thing)

    def test_folders_ascend_by_letters_not_by_length(self):
        tree = (ROOT, ("b", "r", False), ("aa", "r", False), ("ab", "aa", False), ("a", "b", False))
        thing = (("a", "z"), ("aa", "y"), ("ab", "x"), ("b", "w"), ("r", "v"))
        self.right_wants(tree, thing)
        self.right_plan(tree, thing)
        self.wrong_pairs(tree, (("a", "z"), ("b", "w"), ("r", "v"), ("aa", "y"), ("ab", "x")))

    def test_all_letters_are_values(self):
        for letter in "abcdefghijklmnopqrstuvwxyz":
            for length in (1, 7, 8):
                self.right_wants(TREE, (("i", letter * length),))
                self.right_plan(TREE, (("i", "a"), ("r", letter * length)))


class WrongPairs(Telling):
    def test_other_kinds(self):
        for thing in OTHER_KINDS:
            self.wrong_pairs(TREE, thing)
            self.wrong_pairs((ROOT,), thing)

    def test_nested_values(self):
        for levels in range(1, 12):
            for kind in (tuple, list):
                self.wrong_pairs(TREE, nested("r", levels, kind))
                self.wrong_pairs(TREE, nested((), levels, kind))
        for levels in range(1, 10):
            self.wrong_pairs(TREE, nested(("r", "a"), levels + 1))
            self.wrong_pairs(TREE, nested(PLAN, levels))

    def test_pairs_that_do_not_ascend(self):
        self.wrong_pairs(TREE, (("r", "b"), ("i", "a")))
        self.wrong_pairs(TREE, PLAN[::-1])
        self.wrong_pairs(TREE, WANTS[::-1] + (("r", "a"),))
        for k in range(len(PLAN) - 1):
            self.wrong_pairs(TREE, PLAN[:k] + (PLAN[k + 1], PLAN[k]) + PLAN[k + 2:])
        self.wrong_pairs(TREE, (("r", "a"), ("x", "a"), ("i", "a")))

    def test_a_folder_twice(self):
        self.wrong_pairs(TREE, (("i", "a"), ("i", "a"), ("r", "b")))
        self.wrong_pairs(TREE, (("i", "a"), ("i", "b"), ("r", "b")))
        self.wrong_pairs(TREE, (("i", "b"), ("i", "a"), ("r", "b")))
        self.wrong_pairs(TREE, (("r", "a"), ("r", "b")))
        self.wrong_pairs(TREE, (("r", "a"), ("r", "a")))
        self.wrong_pairs(TREE, (("i", "a"), ("r", "a"), ("r", "b")))

    def test_a_folder_that_is_none_of_the_trees(self):
        self.wrong_pairs(TREE, (("m", "a"), ("r", "b")))
        self.wrong_pairs(TREE, (("r", "b"), ("z", "a")))
        self.wrong_pairs(TREE, (("a", "a"), ("r", "b")))
        self.wrong_pairs(TREE, (("ii", "a"), ("r", "b")))
        self.wrong_pairs((ROOT,), (("r", "a"), ("x", "a")))

    def test_folders_of_other_kinds(self):
        for folder in NO_NAMES:
            self.wrong_pairs(TREE, ((folder, "a"),))
            self.wrong_pairs(TREE, ((folder, "a"), ("r", "a")))
            self.wrong_pairs(TREE, (("r", "a"), (folder, "a")))

    def test_values_that_are_none(self):
        for value in NO_NAMES:
            self.wrong_pairs((ROOT,), (("r", value),))
            self.wrong_pairs(TREE, (("i", value), ("r", "a")))
            self.wrong_pairs(TREE, (("i", "a"), ("r", value)))
            self.wrong_pairs(TREE, (("r", "a"), ("x", value), ("y", "a")))

    def test_pairs_of_the_wrong_length(self):
        for pair in ((), ("r",), ("r", "a", "b"), ("r", "a", None), ("r", "a", "b", "c")):
            self.wrong_pairs((ROOT,), (pair,))
            self.wrong_pairs(TREE, (("i", "a"), pair))
            self.wrong_pairs(TREE, (pair, ("x", "a")))
            self.wrong_pairs(TREE, (("i", "a"), ("r", "a"), pair))

    def test_pairs_that_are_no_tuples(self):
        for pair in (None, True, False, 0, 2, "", "r", "ra", "xa", ["r", "a"], ["x", "a"]):
            self.wrong_pairs(TREE, (pair,))
            self.wrong_pairs(TREE, (("r", "a"), pair))
            self.wrong_pairs(TREE, (("i", "a"), pair, ("y", "a")))

    def test_lists_within_the_thing(self):
        self.wrong_pairs(TREE, [])
        for thing in (PLAN, WANTS, (("r", "a"),)):
            self.wrong_pairs(TREE, list(thing))
            self.wrong_pairs(TREE, as_lists(thing))
            for k in range(len(thing)):
                self.wrong_pairs(TREE, thing[:k] + (list(thing[k]),) + thing[k + 1:])

    def test_a_locked_folder_at_any_place_of_a_plan(self):
        for k in range(1, len(TREE)):
            tree = TREE[:k] + ((TREE[k][0], TREE[k][1], True),) + TREE[k + 1:]
            whole = tuple((row[0], "a") for row in sorted(TREE))
            self.right_wants(tree, whole)
            self.wrong_plan(tree, whole)
            self.right_plan(tree, tuple(pair for pair in whole if pair[0] != TREE[k][0]))


class Arguments(Telling):
    def test_the_tree_may_have_lists(self):
        locked = TREE[:6] + (("l", "y", True),)
        for tree, right in ((TREE, True), (locked, False)):
            for form in (list(tree), as_lists(tree), mixed(tree)):
                self.right_wants(form, WANTS)
                self.assertIs(is_plan(form, PLAN), right)
                self.wrong_wants(form, list(WANTS))
                self.wrong_plan(form, as_lists(PLAN))

    def test_arguments_by_their_names(self):
        self.assertIs(is_tree(thing=TREE), True)
        self.assertIs(is_tree(thing=()), False)
        self.assertIs(are_wants(tree=TREE, thing=WANTS), True)
        self.assertIs(are_wants(thing=WANTS, tree=TREE), True)
        self.assertIs(are_wants(TREE, thing=TREE), False)
        self.assertIs(is_plan(tree=TREE, thing=PLAN), True)
        self.assertIs(is_plan(thing=PLAN, tree=TREE), True)
        self.assertIs(is_plan(TREE, thing=WANTS), False)

    def test_nothing_that_is_passed_in_is_changed(self):
        things = (TREE, PLAN, WANTS, as_lists(TREE), as_lists(PLAN), [["x", "r", False], ["r", None, False]],
                  [["r", "a"], ["i", "a"]], [[[]]], ())
        for thing in things:
            tree, kept = as_lists(TREE), copy.deepcopy(thing)
            is_tree(thing)
            are_wants(tree, thing)
            is_plan(tree, thing)
            self.assertEqual(thing, kept)
            self.assertEqual(tree, as_lists(TREE))

    def test_the_same_call_twice_tells_the_same(self):
        for thing in (TREE, PLAN, WANTS, (), (("i", "a"),), as_lists(TREE)):
            self.assertIs(is_tree(thing), is_tree(thing))
            self.assertIs(are_wants(TREE, thing), are_wants(TREE, thing))
            self.assertIs(is_plan(TREE, thing), is_plan(TREE, thing))

    def test_a_wrong_call_leaves_nothing_behind(self):
        self.wrong_tree((ROOT, ("x", "r", False), ("x", "r", False)))
        self.right_tree((ROOT, ("x", "r", False)))
        self.wrong_plan(TREE, (("x", "a"),))
        self.right_plan(TREE, (("r", "a"),))


if __name__ == "__main__":
    unittest.main()
