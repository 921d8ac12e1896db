"""[9], [1], [2], [3], [14]: edits, fewest_edits, edited, lean_edits, lean_edited."""

import random
import unittest

from handeddown.data import is_plan
from handeddown.edits import edited, edits, fewest_edits, lean_edited, lean_edits
from handeddown.errors import Clashing
from handeddown.plans import serves
from handeddown.routes import fewest, fewest_plan
from tests.brute import least_clash, plans_that_serve
from tests.samples import (
    LOCKED, PLAN, ROOT, STAR, THREE, TREE, WANTS, all_wants, as_lists, chain, drawn_plan, drawn_tree, drawn_wants,
    letters_name, mixed, plans, star, trees, value_above)

BOTH = (("j", "b"), ("k", "b"))
START = (("i", "a"), ("j", "a"), ("k", "a"), ("r", "a"))


def unlike(one, other):
    """The sorted folders whose settings are not the same, with none as one more."""
    first, second = dict(one), dict(other)
    return sorted(name for name in set(first) | set(second) if first.get(name) != second.get(name))


class Checking(unittest.TestCase):
    def check_plan(self, tree, wants, plan):
        self.assertIs(type(plan), tuple)
        for pair in plan:
            self.assertIs(type(pair), tuple)
        self.assertIs(is_plan(tree, plan), True, (tree, wants, plan))
        self.assertIs(serves(tree, wants, plan), True, (tree, wants, plan))
        for name, value in wants:
            self.assertEqual(value_above(tree, plan, name), value)

    def check_pair(self, pair):
        self.assertIs(type(pair), tuple)
        self.assertEqual(len(pair), 2)
        for number in pair:
            self.assertIs(type(number), int)

    def check_numbers(self, tree, wants, plan, few, lean):
        """Both pairs, and that the plans have just these numbers."""
        told = (tree, wants, plan)
        self.check_pair(fewest_edits(tree, wants, plan))
        self.check_pair(lean_edits(tree, wants, plan))
        self.assertEqual(fewest_edits(tree, wants, plan), few, told)
        self.assertEqual(lean_edits(tree, wants, plan), lean, told)
        after = edited(tree, wants, plan)
        self.check_plan(tree, wants, after)
        self.assertEqual((len(edits(plan, after)), len(after)), few, told)
        self.assertEqual((len(unlike(plan, after)), len(after)), few, told)
        after = lean_edited(tree, wants, plan)
        self.check_plan(tree, wants, after)
        self.assertEqual((len(after), len(edits(plan, after))), lean, told)
        self.assertEqual((len(after), len(unlike(plan, after))), lean, told)

    def check_all(self, tree, wants, plan, serving):
        """Beside all plans that serve."""
        few = min((len(unlike(plan, other)), len(other)) for other in serving)
        lean = min((len(other), len(unlike(plan, other))) for other in serving)
        self.check_numbers(tree, wants, plan, few, lean)


class Examples(Checking):
    def test_the_tree(self):
        self.assertEqual(fewest_edits(TREE, WANTS, PLAN), (0, 4))
        self.assertEqual(lean_edits(TREE, WANTS, PLAN), (3, 1))
        self.assertEqual(fewest_edits(TREE, WANTS, (("r", "a"),)), (3, 3))
        self.assertEqual(lean_edits(TREE, WANTS, (("r", "a"),)), (3, 3))
        self.check_numbers(TREE, WANTS, PLAN, (0, 4), (3, 1))
        self.check_numbers(TREE, WANTS, (("r", "a"),), (3, 3), (3, 3))

    def test_the_star(self):
        self.assertEqual(fewest_edits(STAR, BOTH, START), (2, 4))
        self.assertEqual(lean_edits(STAR, BOTH, START), (1, 4))
        self.check_numbers(STAR, BOTH, START, (2, 4), (1, 4))
        self.assertEqual(edited(STAR, BOTH, START), (("i", "a"), ("j", "b"), ("k", "b"), ("r", "a")))
        self.assertEqual(lean_edited(STAR, BOTH, START), (("r", "b"),))


class Edits(Checking):
    def check_edits(self, one, other, expected):
        for first, second in ((one, other), (other, one)):
            found = edits(first, second)
            self.assertIs(type(found), list)
            self.assertEqual(found, expected)

    def test_a_plan_and_itself(self):
        for plan in (PLAN, START, (("r", "a"),)):
            self.check_edits(plan, plan, [])
            self.check_edits(plan, as_lists(plan), [])

    def test_a_setting_written_or_taken_away(self):
        self.check_edits((("r", "a"),), (("i", "a"), ("r", "a")), ["i"])
        self.check_edits((("r", "a"),), PLAN, ["i", "l", "r", "x"])
        self.check_edits((("r", "b"),), PLAN, ["i", "l", "x"])

    def test_a_setting_overwritten(self):
        self.check_edits((("r", "a"),), (("r", "b"),), ["r"])
        self.check_edits(PLAN, (("i", "a"), ("l", "b"), ("r", "b"), ("x", "c")), ["l", "x"])

    def test_all_three_at_once(self):
        self.check_edits(
            (("i", "a"), ("k", "a"), ("l", "c"), ("r", "b")), (("j", "a"), ("k", "b"), ("l", "c"), ("r", "b")),
            ["i", "j", "k"])

    def test_like_values_by_unlike_settings_are_edits(self):
        self.check_edits((("r", "b"), ("x", "b")), (("r", "b"),), ["x"])
        self.check_edits((("r", "b"), ("x", "b")), (("r", "b"), ("y", "b")), ["x", "y"])

    def test_a_folder_and_a_value_of_one_name(self):
        self.check_edits((("a", "b"), ("b", "a")), (("a", "a"), ("b", "b")), ["a", "b"])
        self.check_edits((("a", "b"), ("b", "a")), (("b", "a"),), ["a"])

    def test_they_ascend_by_name(self):
        self.check_edits((("aa", "v"), ("m", "v")), (("b", "v"), ("m", "w"), ("z", "v")), ["aa", "b", "m", "z"])

    def test_all_plans_of_small_trees(self):
        for tree in trees(3):
            every = list(plans(tree, ("a", "b")))
            for one in every:
                for other in every:
                    self.assertEqual(edits(one, other), unlike(one, other))

    def test_many_settings(self):
        names = [letters_name(k) for k in range(40)]
        one = tuple((name, "v") for name in names)
        self.check_edits(one, one[:1], names[1:])
        self.check_edits(one, tuple((name, "w") for name in names), names)


class AllSmall(Checking):
    def test_all_wants_and_plans_of_trees_of_up_to_three_folders(self):
        # c is never wanted, d neither wanted nor written at first.
        for many in (1, 2, 3):
            for tree in trees(many):
                for wants in all_wants(tree, ("a", "b")):
                    if least_clash(tree, wants) is None:
                        serving = plans_that_serve(tree, wants, ("a", "b", "c", "d"))
                        for plan in plans(tree, ("a", "b", "c")):
                            self.check_all(tree, wants, plan, serving)

    def test_drawn_wants_and_plans_of_larger_trees(self):
        chance = random.Random(31)
        for k in range(60):
            tree = drawn_tree(chance, 4 + k % 3, lock=(0.0, 0.0, 0.4, 0.6)[k % 4], near=(None, 1)[k % 5 == 0])
            wants = drawn_wants(chance, tree, "abc", inner=(0.0, 0.4)[k % 7 == 0])
            serving = plans_that_serve(tree, wants, ("a", "b", "c"))
            for _ in range(3):
                self.check_all(tree, wants, drawn_plan(chance, tree), serving)

    def test_drawn_wants_at_some_folders(self):
        chance = random.Random(32)
        done = 0
        while done < 60:
            tree = drawn_tree(chance, 5, lock=0.2)
            folders = chance.sample(sorted(row[0] for row in tree), chance.randint(0, 3))
            wants = tuple(sorted((folder, chance.choice("abc")) for folder in folders))
            if least_clash(tree, wants) is None:
                serving = plans_that_serve(tree, wants, ("a", "b", "c"))
                self.check_all(tree, wants, drawn_plan(chance, tree), serving)
                done += 1


class Numbers(Checking):
    def test_a_root_alone(self):
        self.check_numbers(ROOT, (("r", "b"),), (("r", "a"),), (1, 1), (1, 1))
        self.check_numbers(ROOT, (("r", "b"),), (("r", "b"),), (0, 1), (1, 0))

    def test_no_wants(self):
        for tree, plan in ((TREE, PLAN), (STAR, START), (ROOT, (("r", "a"),)), (LOCKED, (("a", "v"), ("r", "v")))):
            for wants in ((), []):
                self.check_numbers(tree, wants, plan, (0, len(plan)), (1, len(plan) - 1))
                self.assertEqual(edited(tree, wants, plan), plan)
                self.assertEqual(lean_edited(tree, wants, plan), (("r", dict(plan)["r"]),))

    def test_a_plan_that_serves_already_stays(self):
        for tree, wants, plan in ((TREE, WANTS, PLAN), (STAR, (("i", "a"),), START), (TREE, (("x", "b"),), PLAN)):
            self.assertEqual(fewest_edits(tree, wants, plan), (0, len(plan)))
            self.assertEqual(edited(tree, wants, plan), plan)
            self.assertEqual(edited(tree, as_lists(wants), as_lists(plan)), plan)

    def test_a_fewest_plan_stays_by_both(self):
        chance = random.Random(33)
        for k in range(40):
            tree = drawn_tree(chance, 16, lock=(0.0, 0.3)[k % 2])
            wants = drawn_wants(chance, tree, "abcdef", inner=0.2)
            plan = fewest_plan(tree, wants)
            self.check_numbers(tree, wants, plan, (0, len(plan)), (len(plan), 0))
            self.assertEqual(edited(tree, wants, plan), plan)
            self.assertEqual(lean_edited(tree, wants, plan), plan)

    def test_of_the_fewest_edits_those_that_take_away_come_first(self):
        # j can be brought to a by taking b away or by overwriting it.
        plan = (("j", "b"), ("r", "a"))
        self.check_numbers(STAR, (("j", "a"),), plan, (1, 1), (1, 1))
        self.assertEqual(edited(STAR, (("j", "a"),), plan), (("r", "a"),))

    def test_one_edit_high_up_in_place_of_many(self):
        tree = (("r", None, False), ("x", "r", False), ("i", "x", False), ("j", "x", False), ("k", "x", False))
        wants = (("i", "b"), ("j", "b"), ("k", "b"))
        self.check_numbers(tree, wants, (("r", "a"),), (1, 1), (1, 1))
        self.check_numbers(tree, (("i", "b"), ("j", "b"), ("k", "b"), ("r", "a")), (("r", "a"),), (1, 2), (2, 1))
        # What is written below x hinders x.
        hindered = (("i", "c"), ("j", "c"), ("k", "c"), ("r", "a"))
        self.check_numbers(tree, wants, hindered, (3, 4), (1, 4))

    def test_overwriting_is_one_edit(self):
        self.check_numbers(STAR, (("i", "b"),), START, (1, 4), (1, 4))
        self.check_numbers(chain(2), (("aa", "v"), ("ab", "w")), (("aa", "w"), ("ab", "v")), (2, 2), (2, 2))

    def test_more_settings_may_need_fewer_edits(self):
        tree = star(5)
        plan = (("aa", "a"), ("ab", "b"), ("ac", "b"), ("ad", "b"), ("ae", "b"))
        wants = (("ab", "b"), ("ac", "b"), ("ad", "b"), ("ae", "c"))
        self.check_numbers(tree, wants, plan, (1, 5), (2, 5))

    def test_locked_folders_are_written_above_them(self):
        self.check_numbers(LOCKED, (("c", "v"), ("e", "w")), (("r", "w"),), (1, 2), (2, 1))
        self.check_numbers(LOCKED, (("b", "v"), ("d", "w"), ("e", "w")), (("r", "w"),), (2, 3), (3, 2))
        self.check_numbers(LOCKED, (("e", "v"),), (("a", "w"), ("r", "w")), (1, 2), (1, 2))
        self.check_numbers(LOCKED, (("c", "v"), ("d", "v"), ("e", "v")), (("a", "w"), ("r", "v")), (1, 1), (1, 1))
        self.assertEqual(edited(LOCKED, (("c", "v"),), (("a", "w"), ("r", "v"))), (("r", "v"),))

    def test_a_value_that_nobody_wants_may_stay(self):
        plan = (("i", "q"), ("r", "p"))
        self.check_numbers(STAR, (("j", "a"),), plan, (1, 2), (1, 2))
        self.check_numbers(STAR, (("j", "p"),), plan, (0, 2), (1, 1))
        self.check_numbers(STAR, (("i", "q"), ("j", "p")), plan, (0, 2), (2, 0))

    def test_lean_edits_tells_fewest_first(self):
        chance = random.Random(34)
        for k in range(60):
            tree = drawn_tree(chance, 16, lock=(0.0, 0.3)[k % 2])
            wants = drawn_wants(chance, tree, "abcdef", inner=0.2)
            plan = drawn_plan(chance, tree)
            few, lean = fewest_edits(tree, wants, plan), lean_edits(tree, wants, plan)
            self.check_numbers(tree, wants, plan, few, lean)
            self.assertEqual(lean[0], fewest(tree, wants))
            self.assertLessEqual(few[0], lean[1])
            self.assertLessEqual(lean[0], few[1])


class Errors(Checking):
    def test_a_clash(self):
        for tree in (LOCKED, as_lists(LOCKED)):
            for wants in ((("a", "v"), ("c", "w")), [["e", "v"], ["r", "w"]]):
                for call in (fewest_edits, edited, lean_edits, lean_edited):
                    with self.assertRaises(Clashing) as caught:
                        call(tree, wants, (("a", "v"), ("r", "w")))
                    self.assertIsInstance(caught.exception, RuntimeError)

    def test_wants_that_are_tied_and_alike(self):
        self.check_numbers(LOCKED, (("a", "v"), ("b", "v"), ("c", "v")), (("r", "w"),), (1, 1), (1, 1))


class Arguments(Checking):
    def test_lists_for_tuples_at_any_depth(self):
        for tree, wants, plan in ((TREE, WANTS, PLAN), (STAR, BOTH, START), (STAR, THREE, START), (STAR, (), START)):
            for call in (fewest_edits, edited, lean_edits, lean_edited):
                first = call(tree, wants, plan)
                for form in (list, as_lists, mixed):
                    again = call(form(tree), form(wants), form(plan))
                    self.assertEqual(again, first)
                    self.assertIs(type(again), tuple)
                    if call in (edited, lean_edited):
                        self.check_plan(tree, wants, again)
        for form in (list, as_lists, mixed):
            self.assertEqual(edits(form(PLAN), form((("r", "a"),))), ["i", "l", "r", "x"])
            self.assertEqual(edits(form(PLAN), PLAN), [])

    def test_arguments_by_their_names(self):
        self.assertEqual(edits(other=PLAN, one=(("r", "b"),)), ["i", "l", "x"])
        self.assertEqual(fewest_edits(plan=PLAN, wants=WANTS, tree=TREE), (0, 4))
        self.assertEqual(lean_edits(plan=PLAN, wants=WANTS, tree=TREE), (3, 1))
        self.assertEqual(edited(plan=PLAN, wants=WANTS, tree=TREE), PLAN)
        self.assertEqual(lean_edited(wants=WANTS, plan=PLAN, tree=TREE), (("i", "a"), ("l", "c"), ("r", "b")))

    def test_nothing_that_is_passed_in_is_changed(self):
        tree, wants, plan, other = as_lists(STAR), as_lists(BOTH), as_lists(START), [["r", "b"]]
        edits(plan, other)
        for call in (fewest_edits, edited, lean_edits, lean_edited):
            call(tree, wants, plan)
        self.assertEqual(
            (tree, wants, plan, other), (as_lists(STAR), as_lists(BOTH), as_lists(START), [["r", "b"]]))

    def test_a_returned_list_belongs_to_the_caller(self):
        first, second = edits(PLAN, (("r", "a"),)), edits(PLAN, (("r", "a"),))
        self.assertIsNot(first, second)
        first.append("more")
        second.clear()
        self.assertEqual(edits(PLAN, (("r", "a"),)), ["i", "l", "r", "x"])

    def test_the_same_call_twice_gives_equal_results(self):
        chance = random.Random(35)
        for _ in range(20):
            tree = drawn_tree(chance, 12, lock=0.2)
            wants = drawn_wants(chance, tree, "abc", inner=0.2)
            plan = drawn_plan(chance, tree)
            for call in (fewest_edits, edited, lean_edits, lean_edited):
                first = call(tree, wants, plan)
                self.assertEqual(call(tree, wants, plan), first)
                self.assertEqual(call(as_lists(tree), as_lists(wants), as_lists(plan)), first)
                self.assertEqual(call(plan=mixed(plan), wants=list(wants), tree=mixed(tree)), first)

    def test_what_is_returned_may_be_passed_in_again(self):
        after = edited(STAR, THREE, START)
        self.check_numbers(STAR, THREE, after, (0, len(after)), lean_edits(STAR, THREE, after))
        self.assertEqual(edited(STAR, THREE, after), after)
        after = lean_edited(STAR, THREE, START)
        self.check_numbers(STAR, THREE, after, (0, 3), (3, 0))


class Sizes(Checking):
    def test_chains_and_stars(self):
        for many in (16, 17, 40):
            names = [letters_name(k) for k in range(many)]
            wants = tuple((name, "abcdefgh"[k % 8]) for k, name in enumerate(names))
            plan = tuple((name, name) for name in names)
            for tree in (chain(many), star(many)):
                few = fewest(tree, wants)
                self.assertEqual(lean_edits(tree, wants, plan), (few, many))
                self.assertEqual(fewest_edits(tree, wants, plan), (many, few))
                self.check_numbers(tree, wants, plan, (many, few), (few, many))

    def test_larger_trees_raise_nothing(self):
        chance = random.Random(36)
        for k in range(8):
            tree = drawn_tree(chance, 18 + 3 * k, lock=0.2)
            wants = drawn_wants(chance, tree, "abcdefgh", inner=0.2)
            plan = drawn_plan(chance, tree)
            self.check_numbers(
                tree, wants, plan, fewest_edits(tree, wants, plan), lean_edits(tree, wants, plan))
            self.assertEqual(lean_edits(tree, wants, plan)[0], fewest(tree, wants))


if __name__ == "__main__":
    unittest.main()
