"""[5], [2], [3]: value_of, values_of, serves, is_lean, tidied."""

import unittest

from handeddown.data import is_plan
from handeddown.plans import is_lean, serves, tidied, value_of, values_of
from tests.samples import (
    LOCKED, PLAN, ROOT, TREE, WANTS, all_wants, as_lists, can_spare, chain, letters_name, mixed, plans, star, trees,
    value_above, values_above)


class Checking(unittest.TestCase):
    def check_values(self, tree, plan):
        expected = values_above(tree, plan)
        found = values_of(tree, plan)
        self.assertEqual(found, expected, (tree, plan))
        self.assertIs(type(found), list)
        for pair in found:
            self.assertIs(type(pair), tuple)
        for folder, value in expected:
            self.assertEqual(value_of(tree, plan, folder), value, (tree, plan, folder))

    def check_lean(self, tree, plan):
        spare = can_spare(tree, plan)
        self.assertIs(is_lean(tree, plan), not spare, (tree, plan))
        tidy = tidied(tree, plan)
        self.check_form(tidy)
        self.assertIs(is_plan(tree, tidy), True, (tree, plan))
        self.assertEqual(values_above(tree, tidy), values_above(tree, plan))
        self.assertEqual(can_spare(tree, tidy), [], (tree, plan))
        self.assertIs(is_lean(tree, tidy), True, (tree, plan))
        if not spare:
            self.assertEqual(tidy, plan)
        self.assertEqual(tidied(tree, tidy), tidy)
        for form in (as_lists, mixed):
            self.assertIs(is_lean(form(tree), form(plan)), not spare, (tree, plan))
            self.assertEqual(tidied(form(tree), form(plan)), tidy)

    def check_form(self, plan):
        self.assertIs(type(plan), tuple)
        for setting in plan:
            self.assertIs(type(setting), tuple)

    def check_serves(self, tree, wants, plan):
        expected = all(value_above(tree, plan, folder) == value for folder, value in wants)
        self.assertIs(serves(tree, wants, plan), expected, (tree, wants, plan))


class Examples(Checking):
    def test_the_example(self):
        self.assertEqual(value_of(TREE, PLAN, "j"), "b")
        self.assertIs(serves(TREE, WANTS, PLAN), True)
        self.assertIs(is_lean(TREE, PLAN), False)
        self.assertEqual(tidied(TREE, PLAN), (("i", "a"), ("l", "c"), ("r", "b")))

    def test_the_values_of_the_example(self):
        self.assertEqual(
            values_of(TREE, PLAN),
            [("i", "a"), ("j", "b"), ("k", "b"), ("l", "c"), ("r", "b"), ("x", "b"), ("y", "b")])
        self.check_values(TREE, PLAN)
        self.check_lean(TREE, PLAN)


class Values(Checking):
    def test_a_root_alone(self):
        self.assertEqual(value_of(ROOT, (("r", "a"),), "r"), "a")
        self.assertEqual(values_of(ROOT, (("r", "a"),)), [("r", "a")])

    def test_the_roots_value_is_handed_down_a_chain(self):
        tree = chain(6)
        for folder, _, _ in tree:
            self.assertEqual(value_of(tree, (("aa", "v"),), folder), "v")
        self.assertEqual(values_of(tree, (("aa", "v"),)), [(row[0], "v") for row in tree])

    def test_a_setting_in_a_chain_holds_from_there_on(self):
        tree = chain(5)
        self.assertEqual(
            values_of(tree, (("aa", "v"), ("ac", "w"))),
            [("aa", "v"), ("ab", "v"), ("ac", "w"), ("ad", "w"), ("ae", "w")])

    def test_a_setting_that_is_overruled_lower_down(self):
        tree = chain(4)
        plan = (("aa", "v"), ("ab", "w"), ("ac", "u"))
        self.assertEqual(values_of(tree, plan), [("aa", "v"), ("ab", "w"), ("ac", "u"), ("ad", "u")])

    def test_a_setting_that_brings_back_a_value_from_further_up(self):
        plan = (("aa", "v"), ("ab", "w"), ("ad", "v"))
        self.assertEqual(
            values_of(chain(5), plan), [("aa", "v"), ("ab", "w"), ("ac", "w"), ("ad", "v"), ("ae", "v")])
        self.assertEqual(value_of(chain(5), plan, "ae"), "v")
        self.assertEqual(value_of(chain(5), plan, "ac"), "w")

    def test_a_setting_beside_changes_nothing(self):
        plan = (("aa", "v"), ("ac", "w"))
        self.assertEqual(values_of(star(4), plan), [("aa", "v"), ("ab", "v"), ("ac", "w"), ("ad", "v")])

    def test_locked_folders_have_their_parents_values(self):
        self.assertEqual(
            values_of(LOCKED, (("a", "x"), ("d", "y"), ("r", "z"))),
            [("a", "x"), ("b", "x"), ("c", "x"), ("d", "y"), ("e", "z"), ("r", "z")])
        self.assertEqual(value_of(LOCKED, (("r", "z"),), "c"), "z")
        self.assertEqual(value_of(LOCKED, (("a", "x"), ("r", "z")), "d"), "x")

    def test_values_ascend_by_folder_whatever_the_rows_order(self):
        tree = (("m", None, False), ("b", "m", False), ("aa", "b", False), ("z", "m", False), ("ab", "z", True),
                ("a", "aa", False))
        self.assertEqual(
            values_of(tree, (("b", "y"), ("m", "x"), ("z", "w"))),
            [("a", "y"), ("aa", "y"), ("ab", "w"), ("b", "y"), ("m", "x"), ("z", "w")])

    def test_a_value_may_be_named_like_a_folder(self):
        plan = (("i", "r"), ("r", "x"), ("x", "i"))
        self.assertEqual(value_of(TREE, plan, "i"), "r")
        self.assertEqual(value_of(TREE, plan, "j"), "i")
        self.assertEqual(value_of(TREE, plan, "k"), "x")

    def test_all_small_trees_and_plans(self):
        for many in (1, 2, 3, 4):
            for tree in trees(many):
                for plan in plans(tree, ("a", "b")):
                    self.check_values(tree, plan)

    def test_more_folders_and_values_than_the_bounds(self):
        for tree in (chain(16), star(16), chain(40), star(40), chain(40, locked=range(2, 40, 3))):
            free = sorted(row[0] for row in tree if not row[2])
            self.check_values(tree, tuple((folder, folder) for folder in free))
            self.check_values(tree, ((free[0], "v"), (free[-1], "w")))


class Serves(Checking):
    def test_no_wants_are_served_by_each_plan(self):
        for tree, plan in ((TREE, PLAN), (ROOT, (("r", "a"),)), (LOCKED, (("r", "a"),))):
            self.assertIs(serves(tree, (), plan), True)
            self.assertIs(serves(tree, [], plan), True)

    def test_a_root_alone(self):
        self.assertIs(serves(ROOT, (("r", "a"),), (("r", "a"),)), True)
        self.assertIs(serves(ROOT, (("r", "b"),), (("r", "a"),)), False)

    def test_one_want_that_is_not_met_at_any_place(self):
        for k in range(len(WANTS)):
            wants = WANTS[:k] + ((WANTS[k][0], "d"),) + WANTS[k + 1:]
            self.assertIs(serves(TREE, wants, PLAN), False)
            self.assertIs(serves(TREE, WANTS[:k] + WANTS[k + 1:], PLAN), True)

    def test_a_value_that_is_overruled_does_not_serve(self):
        tree = chain(3)
        plan = (("aa", "v"), ("ab", "w"))
        self.assertIs(serves(tree, (("ac", "v"),), plan), False)
        self.assertIs(serves(tree, (("ac", "w"),), plan), True)
        self.assertIs(serves(tree, (("aa", "w"),), plan), False)
        self.assertIs(serves(tree, (("aa", "v"), ("ac", "w")), plan), True)

    def test_a_value_that_comes_back_serves(self):
        plan = (("aa", "v"), ("ab", "w"), ("ac", "v"))
        self.assertIs(serves(chain(4), (("aa", "v"), ("ab", "w"), ("ad", "v")), plan), True)
        self.assertIs(serves(chain(4), (("aa", "v"), ("ab", "w"), ("ad", "w")), plan), False)

    def test_a_value_beside_does_not_serve(self):
        self.assertIs(serves(star(3), (("ab", "w"),), (("aa", "v"), ("ac", "w"))), False)

    def test_wants_at_locked_folders(self):
        plan = (("a", "x"), ("d", "y"), ("r", "z"))
        self.assertIs(serves(LOCKED, (("b", "x"), ("c", "x"), ("e", "z")), plan), True)
        self.assertIs(serves(LOCKED, (("b", "z"),), plan), False)
        self.assertIs(serves(LOCKED, (("c", "x"), ("e", "x")), plan), False)

    def test_a_written_value_is_not_needed_where_it_is_wanted(self):
        self.assertIs(serves(TREE, (("l", "b"),), (("r", "b"),)), True)

    def test_a_plan_serves_all_values_that_it_gives(self):
        for tree, plan in ((TREE, PLAN), (LOCKED, (("a", "x"), ("r", "z"))), (chain(30), (("aa", "v"),))):
            self.assertIs(serves(tree, values_of(tree, plan), plan), True)
            self.assertIs(serves(tree, tuple(values_of(tree, plan)), tidied(tree, plan)), True)

    def test_all_small_trees_plans_and_wants(self):
        for many in (1, 2, 3):
            for tree in trees(many):
                for plan in plans(tree, ("a", "b")):
                    for wants in all_wants(tree, ("a", "b")):
                        self.check_serves(tree, wants, plan)


class Lean(Checking):
    def test_a_root_alone(self):
        self.assertIs(is_lean(ROOT, (("r", "a"),)), True)
        self.assertEqual(tidied(ROOT, (("r", "a"),)), (("r", "a"),))

    def test_the_roots_setting_is_always_there(self):
        for tree in (TREE, LOCKED, chain(9), star(9)):
            plan = ((tree[0][0], "a"),)
            self.assertIs(is_lean(tree, plan), True)
            self.assertEqual(tidied(tree, plan), plan)

    def test_the_roots_setting_stays_where_all_below_are_written(self):
        plan = (("aa", "v"), ("ab", "w"), ("ac", "u"))
        self.assertIs(is_lean(star(3), plan), True)
        self.assertEqual(tidied(star(3), plan), plan)

    def test_a_setting_that_changes_nothing(self):
        self.assertIs(is_lean(chain(3), (("aa", "v"), ("ac", "v"))), False)
        self.assertEqual(tidied(chain(3), (("aa", "v"), ("ac", "v"))), (("aa", "v"),))
        self.assertIs(is_lean(star(3), (("aa", "v"), ("ab", "v"), ("ac", "w"))), False)
        self.assertEqual(tidied(star(3), (("aa", "v"), ("ab", "v"), ("ac", "w"))), (("aa", "v"), ("ac", "w")))

    def test_all_settings_alike(self):
        for tree in (TREE, chain(7), star(7)):
            plan = tuple(sorted((row[0], "a") for row in tree))
            self.assertIs(is_lean(tree, plan), False)
            self.assertEqual(tidied(tree, plan), ((tree[0][0], "a"),))

    def test_a_setting_that_is_overruled_by_all_below_is_needed_for_its_own_folder(self):
        plan = (("aa", "v"), ("ab", "w"), ("ac", "u"))
        self.assertIs(is_lean(chain(3), plan), True)
        self.assertEqual(tidied(chain(3), plan), plan)

    def test_a_setting_that_brings_back_a_value_is_needed(self):
        plan = (("aa", "v"), ("ab", "w"), ("ac", "v"))
        self.assertIs(is_lean(chain(4), plan), True)
        self.assertEqual(tidied(chain(4), plan), plan)

    def test_the_setting_above_decides_and_not_the_root(self):
        plan = (("aa", "v"), ("ab", "w"), ("ad", "w"))
        self.assertIs(is_lean(chain(4), plan), False)
        self.assertEqual(tidied(chain(4), plan), (("aa", "v"), ("ab", "w")))

    def test_two_settings_that_change_nothing_go_both(self):
        plan = (("aa", "v"), ("ab", "v"), ("ac", "v"), ("ad", "w"), ("ae", "w"))
        self.assertEqual(tidied(chain(6), plan), (("aa", "v"), ("ad", "w")))

    def test_through_locked_folders(self):
        self.assertIs(is_lean(LOCKED, (("a", "x"), ("d", "x"), ("r", "z"))), False)
        self.assertEqual(tidied(LOCKED, (("a", "x"), ("d", "x"), ("r", "z"))), (("a", "x"), ("r", "z")))
        self.assertIs(is_lean(LOCKED, (("a", "x"), ("d", "z"), ("r", "z"))), True)
        self.assertEqual(
            tidied(LOCKED, (("a", "x"), ("d", "z"), ("r", "z"))), (("a", "x"), ("d", "z"), ("r", "z")))

    def test_tidied_ascends_whatever_the_rows_order(self):
        tree = (("m", None, False), ("z", "m", False), ("b", "z", False), ("aa", "m", False), ("ab", "aa", False),
                ("a", "b", False))
        plan = (("a", "w"), ("aa", "v"), ("ab", "u"), ("b", "u"), ("m", "v"), ("z", "t"))
        self.assertEqual(tidied(tree, plan), (("a", "w"), ("ab", "u"), ("b", "u"), ("m", "v"), ("z", "t")))

    def test_all_small_trees_and_plans(self):
        for many in (1, 2, 3, 4):
            for tree in trees(many):
                for plan in plans(tree, ("a", "b")):
                    self.check_lean(tree, plan)

    def test_small_trees_with_three_values(self):
        for tree in trees(3):
            for plan in plans(tree, ("a", "b", "c")):
                self.check_lean(tree, plan)

    def test_more_folders_and_values_than_the_bounds(self):
        for many in (16, 30):
            plan = tuple((letters_name(k), letters_name(k // 2)) for k in range(many))
            for tree in (chain(many), star(many)):
                self.check_lean(tree, plan)


class Arguments(Checking):
    def test_lists_for_tuples_at_any_depth(self):
        for form in (list, as_lists, mixed):
            tree, wants, plan = form(TREE), form(WANTS), form(PLAN)
            self.assertEqual(value_of(tree, plan, "j"), "b")
            self.assertEqual(values_of(tree, plan), values_of(TREE, PLAN))
            self.assertIs(serves(tree, wants, plan), True)
            self.assertIs(serves(tree, form((("i", "b"),)), plan), False)
            self.assertIs(is_lean(tree, plan), False)
            self.assertEqual(tidied(tree, plan), (("i", "a"), ("l", "c"), ("r", "b")))
            self.assertIs(is_lean(tree, form((("i", "a"), ("l", "c"), ("r", "b")))), True)

    def test_lists_come_back_as_tuples(self):
        lean = (("i", "a"), ("l", "c"), ("r", "b"))
        for form in (list, as_lists, mixed):
            for plan in (PLAN, lean, (("r", "b"),)):
                tidy = tidied(form(TREE), form(plan))
                self.check_form(tidy)
                self.assertEqual(tidy, tidied(TREE, plan))
                for pair in values_of(form(TREE), form(plan)):
                    self.assertIs(type(pair), tuple)

    def test_arguments_by_their_names(self):
        self.assertEqual(value_of(folder="l", plan=PLAN, tree=TREE), "c")
        self.assertEqual(value_of(TREE, folder="i", plan=PLAN), "a")
        self.assertEqual(values_of(plan=PLAN, tree=TREE), values_of(TREE, PLAN))
        self.assertIs(serves(plan=PLAN, wants=WANTS, tree=TREE), True)
        self.assertIs(serves(wants=(("i", "c"),), tree=TREE, plan=PLAN), False)
        self.assertIs(is_lean(plan=PLAN, tree=TREE), False)
        self.assertEqual(tidied(plan=PLAN, tree=TREE), tidied(TREE, PLAN))

    def test_nothing_that_is_passed_in_is_changed(self):
        for sample in (PLAN, (("i", "a"), ("r", "b")), (("r", "b"),)):
            tree, wants, plan = as_lists(TREE), as_lists(WANTS), as_lists(sample)
            value_of(tree, plan, "j")
            values_of(tree, plan)
            serves(tree, wants, plan)
            is_lean(tree, plan)
            tidied(tree, plan)
            self.assertEqual((tree, wants, plan), (as_lists(TREE), as_lists(WANTS), as_lists(sample)))

    def test_a_returned_list_belongs_to_the_caller(self):
        for plan in (PLAN, list(PLAN)):
            expected = values_above(TREE, PLAN)
            first = values_of(TREE, plan)
            second = values_of(TREE, plan)
            self.assertIsNot(first, second)
            first[0] = ("i", "changed")
            first.append("more")
            second.clear()
            self.assertEqual(values_of(TREE, plan), expected)
            self.assertEqual(value_of(TREE, plan, "i"), "a")

    def test_a_list_that_the_caller_changes_changes_the_next_answer_alone(self):
        tree, plan = as_lists(TREE), as_lists(PLAN)
        tidy = tidied(tree, plan)
        values = values_of(tree, plan)
        plan[2][1] = "d"
        self.assertEqual(tidy, (("i", "a"), ("l", "c"), ("r", "b")))
        self.assertEqual(values, values_of(TREE, PLAN))
        self.assertEqual(value_of(tree, plan, "y"), "d")
        self.assertEqual(tidied(tree, plan), (("i", "a"), ("l", "c"), ("r", "d"), ("x", "b")))

    def test_the_same_call_twice_gives_equal_results(self):
        for tree, plan in ((TREE, PLAN), (LOCKED, (("a", "x"), ("d", "x"), ("r", "z")))):
            self.assertEqual(values_of(tree, plan), values_of(tree, plan))
            self.assertEqual(tidied(tree, plan), tidied(tree, plan))
            self.assertEqual(value_of(tree, plan, "r"), value_of(tree, plan, "r"))
            self.assertIs(is_lean(tree, plan), is_lean(tree, plan))
            self.assertIs(serves(tree, (), plan), serves(tree, (), plan))

    def test_what_is_returned_may_be_passed_in_again(self):
        tidy = tidied(TREE, PLAN)
        self.assertEqual(values_of(TREE, tidy), values_of(TREE, PLAN))
        self.assertEqual(tidied(TREE, values_of(TREE, PLAN)), tidy)
        self.assertIs(is_lean(TREE, values_of(TREE, PLAN)), False)


if __name__ == "__main__":
    unittest.main()
