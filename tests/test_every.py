"""[8], [2], [3], [14]: is_fewest, how_many, can_be, with_value, must_write, may_write."""

import random
import unittest
from math import prod

from handeddown.data import is_plan
from handeddown.errors import Clashing, NoWants
from handeddown.every import can_be, how_many, is_fewest, may_write, must_write, with_value
from handeddown.routes import fewest, fewest_plan
from tests.brute import fewest_plans, givings, least_clash, plans_that_serve, settings_of
from tests.samples import (
    LOCKED, ROOT, STAR, THREE, TREE, WANTS, all_wants, as_lists, chain, drawn_tree, drawn_wants, letters_name, mixed,
    plans, star, trees, value_above)

CLASHING = (("a", "v"), ("c", "w"))


class Checking(unittest.TestCase):
    def check_list(self, found, expected, told):
        self.assertIs(type(found), list)
        self.assertEqual(found, expected, told)

    def check_all(self, tree, wants, values):
        """Beside all plans: the fewest ones of all with these values, among them some that nobody wants."""
        serving = plans_that_serve(tree, wants, values)
        few = min(len(plan) for plan in serving)
        best = [plan for plan in serving if len(plan) == few]
        self.assertEqual(how_many(tree, wants), len(best), (tree, wants))
        names = sorted(row[0] for row in tree)
        written = [{pair[0] for pair in plan} for plan in best]
        self.check_list(
            must_write(tree, wants), [name for name in names if all(name in told for told in written)], (tree, wants))
        self.check_list(
            may_write(tree, wants), [name for name in names if any(name in told for told in written)], (tree, wants))
        for name in names:
            had = sorted({value_above(tree, plan, name) for plan in best})
            self.check_list(can_be(tree, wants, name), had, (tree, wants, name))
            for value in values:
                self.check_value(tree, wants, name, value, serving)

    def check_value(self, tree, wants, name, value, serving):
        counts = [len(plan) for plan in serving if value_above(tree, plan, name) == value]
        found = with_value(tree, wants, name, value)
        self.assertEqual(found, min(counts, default=None), (tree, wants, name, value))

    def check_things(self, tree, wants, values):
        best = fewest_plans(tree, wants, values)
        for plan in plans(tree, values):
            self.assertIs(is_fewest(tree, wants, plan), plan in best, (tree, wants, plan))


class Examples(Checking):
    def test_the_tree(self):
        self.assertEqual(how_many(TREE, WANTS), 1)
        self.assertEqual(can_be(TREE, WANTS, "x"), ["b"])
        self.assertEqual(can_be(TREE, WANTS, "r"), ["b"])
        self.assertEqual(must_write(TREE, WANTS), ["i", "l", "r"])
        self.assertEqual(may_write(TREE, WANTS), ["i", "l", "r"])
        self.assertEqual(with_value(TREE, WANTS, "y", "c"), 4)

    def test_the_star(self):
        self.assertEqual(how_many(STAR, THREE), 3)
        self.assertEqual(can_be(STAR, THREE, "r"), ["a", "b", "c"])
        self.assertEqual(with_value(STAR, THREE, "r", "d"), 4)
        self.assertEqual(must_write(STAR, THREE), ["r"])
        self.assertEqual(may_write(STAR, THREE), ["i", "j", "k", "r"])


class AllSmall(Checking):
    def test_trees_of_up_to_three_folders(self):
        for many in (1, 2, 3):
            for tree in trees(many):
                for wants in all_wants(tree, ("a", "b", "c")):
                    if wants and least_clash(tree, wants) is None:
                        self.check_all(tree, wants, ("a", "b", "c", "d"))
                        self.check_things(tree, wants, ("a", "b", "c"))

    def test_trees_of_four_folders(self):
        for tree in trees(4):
            for wants in all_wants(tree, ("a", "b")):
                if wants and least_clash(tree, wants) is None:
                    self.check_all(tree, wants, ("a", "b"))

    def test_drawn_wants_of_three_values_in_trees_of_four_and_five_folders(self):
        chance = random.Random(11)
        for k in range(60):
            tree = drawn_tree(chance, 4 + k % 2, lock=(0.0, 0.3)[k % 3 == 0])
            wants = drawn_wants(chance, tree, "abc", inner=(0.0, 0.5)[k % 5 == 0])
            self.check_all(tree, wants, ("a", "b", "c", "d"))
            self.check_things(tree, wants, ("a", "b", "c", "d"))


class IsFewest(Checking):
    def test_all_plans_of_the_examples(self):
        self.check_things(STAR, THREE, ("a", "b", "c", "d"))
        self.check_things(TREE, WANTS, ("b", "c"))
        self.check_things(LOCKED, (("c", "v"), ("d", "w"), ("e", "v")), ("u", "v", "w"))

    def test_a_fewest_plan_bent(self):
        plan = (("i", "a"), ("l", "c"), ("r", "b"))
        self.assertIs(is_fewest(TREE, WANTS, plan), True)
        for bent in (plan[:2], plan[1:], plan[:1] + plan[2:], plan + plan[2:], plan[::-1],
                     (("i", "b"), ("l", "c"), ("r", "b")), (("i", "a"), ("l", "b"), ("r", "b")),
                     (("i", "a"), ("l", "c"), ("r", "a")), (("i", "a"), ("l", "c"), ("x", "b")),
                     (("i", "a"), ("l", "c"), ("r", "b"), ("x", "b")), (("i", "a"), ("k", "c"), ("r", "b")),
                     (("i", "a", "r"), ("l", "c"), ("r", "b")), (("i",), ("l", "c"), ("r", "b")),
                     (("I", "a"), ("l", "c"), ("r", "b")), (("i", "a"), ("l", "c"), ("r", "")),
                     (("i", "a"), ("l", "c"), ("q", "b")), (("i", "a"), ("l", None), ("r", "b")),
                     (("i", "a"), None, ("r", "b")), ("i", "l", "r"), (plan,), ("ia", "lc", "rb")):
            self.assertIs(is_fewest(TREE, WANTS, bent), False, bent)

    def test_lists_are_no_plan(self):
        plan = (("i", "a"), ("l", "c"), ("r", "b"))
        for thing in (list(plan), as_lists(plan), mixed(plan), (["i", "a"],) + plan[1:]):
            self.assertIs(is_fewest(TREE, WANTS, thing), False)

    def test_values_of_other_kinds(self):
        for thing in (0, 1, -1, 3, True, False, None, "", "i", "r=b", (), [], ((),), [[]], ({}.get("x"),), 10 ** 30,
                      (("r", True),), (("r", 1),), ((0, "b"),), (((("r", "b"),),),), [[["r", ["b"]]]]):
            self.assertIs(is_fewest(TREE, WANTS, thing), False)
            self.assertIs(is_fewest(ROOT, (("r", "b"),), thing), False)
        deep = ()
        for _ in range(12):
            deep = (deep, [deep])
            self.assertIs(is_fewest(TREE, WANTS, deep), False)

    def test_a_locked_folder_is_not_written(self):
        wants = (("b", "v"), ("r", "w"))
        self.assertIs(is_fewest(LOCKED, wants, (("a", "v"), ("r", "w"))), True)
        self.assertIs(is_fewest(LOCKED, wants, (("b", "v"), ("r", "w"))), False)

    def test_a_plan_that_serves_with_more(self):
        self.assertIs(is_fewest(TREE, (("i", "a"),), (("r", "a"),)), True)
        self.assertIs(is_fewest(TREE, (("i", "a"),), (("i", "a"), ("r", "b"))), False)
        self.assertIs(is_fewest(TREE, (("i", "a"),), (("i", "a"), ("r", "a"))), False)

    def test_a_plan_with_as_few_that_does_not_serve(self):
        self.assertIs(is_fewest(TREE, (("i", "a"),), (("r", "b"),)), False)
        self.assertIs(is_fewest(STAR, THREE, (("i", "b"), ("j", "a"), ("r", "c"))), False)

    def test_what_fewest_plan_tells(self):
        chance = random.Random(12)
        for k in range(60):
            tree = drawn_tree(chance, 16, lock=(0.0, 0.3)[k % 2])
            wants = drawn_wants(chance, tree, "abcdef", inner=0.3)
            self.assertIs(is_fewest(tree, wants, fewest_plan(tree, wants)), True)
            self.assertIs(is_fewest(tree, wants, list(fewest_plan(tree, wants))), False)


class HowMany(Checking):
    def test_a_root_alone(self):
        self.assertEqual(how_many(ROOT, (("r", "a"),)), 1)
        self.assertEqual(can_be(ROOT, (("r", "a"),), "r"), ["a"])
        self.assertEqual(must_write(ROOT, (("r", "a"),)), ["r"])
        self.assertEqual(may_write(ROOT, (("r", "a"),)), ["r"])
        self.assertEqual(with_value(ROOT, (("r", "a"),), "r", "a"), 1)
        self.assertIsNone(with_value(ROOT, (("r", "a"),), "r", "b"))

    def test_one_value_for_all(self):
        for tree in (TREE, STAR, chain(16), star(16), LOCKED):
            for row in tree:
                wants = ((row[0], "v"),)
                self.assertEqual(how_many(tree, wants), 1)
                self.assertEqual(must_write(tree, wants), [tree[0][0]])
                self.assertEqual(may_write(tree, wants), [tree[0][0]])
                for other in tree:
                    self.assertEqual(can_be(tree, wants, other[0]), ["v"])

    def test_a_chain_may_change_anywhere_between(self):
        for many in (2, 3, 9, 16, 40):
            tree = chain(many)
            wants = ((letters_name(0), "v"), (letters_name(many - 1), "w"))
            self.assertEqual(how_many(tree, wants), many - 1)
            self.assertEqual(must_write(tree, wants), ["aa"] if many > 2 else ["aa", "ab"])
            self.assertEqual(may_write(tree, wants), [row[0] for row in tree])
            for k in range(1, many - 1):
                self.assertEqual(can_be(tree, wants, letters_name(k)), ["v", "w"])
        locked = chain(9, locked=(2, 3, 7))
        self.assertEqual(how_many(locked, (("aa", "v"), ("ai", "w"))), 5)
        self.assertEqual(may_write(locked, (("aa", "v"), ("ai", "w"))), ["aa", "ab", "ae", "af", "ag", "ai"])

    def test_a_star_may_have_each_of_the_commonest_values(self):
        for many in (3, 9, 16, 30):
            tree = star(many)
            names = [letters_name(k) for k in range(1, many)]
            self.assertEqual(how_many(tree, tuple(zip(names, names))), many - 1)
            self.assertEqual(can_be(tree, tuple(zip(names, names)), "aa"), names)
        wants = tuple(zip([letters_name(k) for k in range(1, 16)], "aabbbcccddddeee"))
        self.assertEqual(how_many(star(16), wants), 1)
        wants = tuple(zip([letters_name(k) for k in range(1, 16)], "aaabbbcccdddeee"))
        self.assertEqual(how_many(star(16), wants), 5)
        self.assertEqual(can_be(star(16), wants, "aa"), ["a", "b", "c", "d", "e"])
        self.assertEqual(may_write(star(16), wants), [letters_name(k) for k in range(16)])
        self.assertEqual(must_write(star(16), wants), ["aa"])

    def test_very_large_numbers(self):
        # Below a root with a want: branches that choose on their own, of which each wants two or more values.
        sizes = [2, 3, 4, 5, 2, 6, 30, 30, 30, 30, 30, 30, 30, 30, 30, 30]
        rows, wants = [("r", None, False)], [("r", "q")]
        for at, many in enumerate(sizes):
            top = letters_name(at)
            rows.append((top, "r", False))
            for k in range(many):
                rows.append((top + letters_name(k), top, False))
                wants.append((top + letters_name(k), letters_name(k)))
        # The top may also have the root's value, and then all below are written.
        expected = prod(many + 1 for many in sizes)
        self.assertEqual(how_many(tuple(rows), tuple(sorted(wants))), expected)
        self.assertLess(10 ** 17, expected)

    def test_at_the_bounds_it_is_the_sum_over_the_values_of_each_folder(self):
        chance = random.Random(13)
        for k in range(25):
            tree = drawn_tree(chance, 16, lock=(0.0, 0.2)[k % 2], near=(None, 3)[k % 3 == 0])
            wants = drawn_wants(chance, tree, "abcdef"[:3 + k % 4], inner=(0.0, 0.2)[k % 4 == 0])
            for row in tree:
                if row[0] not in dict(wants):
                    more = [tuple(sorted(wants + ((row[0], value),))) for value in can_be(tree, wants, row[0])]
                    self.assertEqual(how_many(tree, wants), sum(how_many(tree, wish) for wish in more))

    def test_many_folders_beside_all_values_of_the_free_ones(self):
        chance = random.Random(14)
        for _ in range(12):
            tree = drawn_tree(chance, 12, lock=0.5)
            wants = drawn_wants(chance, tree, "abc")
            serving = [
                given for given in givings(tree, "abc")
                if all(given[name] == value for name, value in wants)] if self.are_few(tree) else []
            if not serving:
                continue
            few = min(settings_of(tree, given) for given in serving)
            best = [given for given in serving if settings_of(tree, given) == few]
            self.assertEqual(how_many(tree, wants), len(best))
            for name, parent, is_locked in tree:
                self.assertEqual(can_be(tree, wants, name), sorted({given[name] for given in best}))
                changes = [parent is None or given[name] != given[parent] for given in best]
                self.assertEqual(name in must_write(tree, wants), all(changes))
                self.assertEqual(name in may_write(tree, wants), any(changes))

    def are_few(self, tree):
        return len([row for row in tree if not row[2]]) <= 8


class WithValue(Checking):
    def test_each_folder_and_value_of_the_example(self):
        for name, value, expected in (
                ("r", "a", 4), ("r", "b", 3), ("r", "c", 4), ("r", "d", 5), ("x", "a", 4), ("x", "b", 3), ("x", "c", 4),
                ("x", "d", 5), ("y", "a", 4), ("y", "b", 3), ("y", "c", 4), ("y", "d", 5), ("i", "a", 3),
                ("j", "b", 3), ("l", "c", 3)):
            self.assertEqual(with_value(TREE, WANTS, name, value), expected, (name, value))

    def test_another_value_than_the_one_that_is_wanted_there(self):
        for name, value in WANTS:
            for other in "abcd":
                found = with_value(TREE, WANTS, name, other)
                self.assertEqual(found, 3 if other == value else None)

    def test_tied_folders(self):
        wants = (("c", "v"), ("r", "w"))
        for name in ("a", "b", "c"):
            self.assertEqual(with_value(LOCKED, wants, name, "v"), 2)
            self.assertIsNone(with_value(LOCKED, wants, name, "w"))
            self.assertIsNone(with_value(LOCKED, wants, name, "u"))
        self.assertIsNone(with_value(LOCKED, wants, "e", "v"))
        self.assertEqual(with_value(LOCKED, wants, "e", "w"), 2)
        self.assertEqual(with_value(LOCKED, wants, "d", "v"), 2)
        self.assertEqual(with_value(LOCKED, wants, "d", "w"), 3)
        self.assertEqual(with_value(LOCKED, wants, "d", "u"), 3)

    def test_a_locked_folder_without_a_tied_want(self):
        self.assertEqual(with_value(LOCKED, (("d", "v"), ("r", "w")), "c", "u"), 3)
        self.assertEqual(with_value(LOCKED, (("d", "v"), ("r", "w")), "c", "w"), 2)

    def test_at_the_bounds_no_less_than_fewest_and_no_more_than_the_folder_takes(self):
        chance = random.Random(15)
        for k in range(20):
            tree = drawn_tree(chance, 16, lock=(0.0, 0.3)[k % 2])
            wants = drawn_wants(chance, tree, "abcdef", inner=0.1)
            few = fewest(tree, wants)
            for name, _, _ in tree:
                for value in "abcdefg":
                    found = with_value(tree, wants, name, value)
                    self.assertEqual(found is not None, self.can_have(tree, wants, name, value))
                    if found is not None:
                        self.assertLessEqual(few, found)
                        self.assertEqual(value in can_be(tree, wants, name), found == few)

    def can_have(self, tree, wants, name, value):
        wanted = dict(wants)
        if wanted.get(name, value) != value:
            return False
        return least_clash(tree, tuple(sorted({**wanted, name: value}.items()))) is None


class Written(Checking):
    def test_the_root_is_always_written(self):
        for tree in (TREE, STAR, chain(5), LOCKED):
            for wants in ((("r", "v"),), (("i", "v"),), (("ac", "v"),), (("c", "v"), ("d", "w"))):
                if {name for name, _ in wants} <= {row[0] for row in tree}:
                    self.assertIn(tree[0][0], must_write(tree, wants))
                    self.assertIn(tree[0][0], may_write(tree, wants))

    def test_locked_folders_never_are(self):
        wants = (("b", "v"), ("d", "w"), ("e", "u"))
        self.assertEqual(must_write(LOCKED, wants), ["a", "d", "r"])
        self.assertEqual(may_write(LOCKED, wants), ["a", "d", "r"])

    def test_ascending_whatever_the_rows_order(self):
        tree = (("m", None, False), ("z", "m", False), ("b", "m", False), ("aa", "z", False), ("ab", "b", False))
        wants = (("aa", "v"), ("ab", "w"), ("b", "v"), ("m", "w"), ("z", "u"))
        self.assertEqual(must_write(tree, wants), ["aa", "ab", "b", "m", "z"])
        self.assertEqual(may_write(tree, wants), ["aa", "ab", "b", "m", "z"])
        self.assertEqual(can_be(tree, (("aa", "w"), ("ab", "v")), "m"), ["v", "w"])

    def test_must_be_among_may_and_the_counts_agree(self):
        chance = random.Random(16)
        for k in range(40):
            tree = drawn_tree(chance, 16, lock=(0.0, 0.3)[k % 2], near=(None, 2)[k % 3 == 0])
            wants = drawn_wants(chance, tree, "abcd", inner=0.1)
            must, may = must_write(tree, wants), may_write(tree, wants)
            self.assertTrue(set(must) <= set(may))
            self.assertLessEqual(len(must), fewest(tree, wants))
            self.assertLessEqual(fewest(tree, wants), len(may))
            # As many as are written by all are all that are written by any, where there is one alone.
            self.assertEqual(must == may, how_many(tree, wants) == 1)
            plan = fewest_plan(tree, wants)
            self.assertTrue(set(must) <= {name for name, _ in plan} <= set(may))


class Errors(Checking):
    def calls(self, tree, wants):
        return [
            lambda: is_fewest(tree, wants, ()), lambda: is_fewest(tree, wants, (("r", "v"),)),
            lambda: is_fewest(tree, wants, None), lambda: is_fewest(tree, wants, [[0]]),
            lambda: how_many(tree, wants), lambda: can_be(tree, wants, "r"), lambda: can_be(tree, wants, "c"),
            lambda: with_value(tree, wants, "r", "v"), lambda: with_value(tree, wants, "c", "u"),
            lambda: must_write(tree, wants), lambda: may_write(tree, wants)]

    def test_no_wants(self):
        for tree in (LOCKED, as_lists(LOCKED), STAR, ROOT):
            for wants in ((), []):
                for call in self.calls(tree, wants):
                    with self.assertRaises(NoWants) as caught:
                        call()
                    self.assertIsInstance(caught.exception, RuntimeError)

    def test_a_clash(self):
        for tree in (LOCKED, as_lists(LOCKED)):
            for wants in (CLASHING, as_lists(CLASHING), (("b", "v"), ("c", "w")), (("e", "v"), ("r", "w"))):
                for call in self.calls(tree, wants):
                    with self.assertRaises(Clashing) as caught:
                        call()
                    self.assertIsInstance(caught.exception, RuntimeError)

    def test_a_folder_that_has_nothing_to_do_with_the_clash(self):
        with self.assertRaises(Clashing):
            can_be(LOCKED, CLASHING, "d")
        with self.assertRaises(Clashing):
            with_value(LOCKED, CLASHING, "d", "v")
        with self.assertRaises(Clashing):
            with_value(LOCKED, CLASHING, "a", "w")

    def test_a_value_that_would_clash_is_none_and_no_error(self):
        self.assertIsNone(with_value(LOCKED, (("a", "v"),), "c", "w"))
        self.assertIsNone(with_value(LOCKED, (("a", "v"),), "a", "w"))


class Arguments(Checking):
    def test_lists_for_tuples_at_any_depth(self):
        for form in (list, as_lists, mixed):
            tree, wants = form(TREE), form(WANTS)
            self.assertIs(is_fewest(tree, wants, (("i", "a"), ("l", "c"), ("r", "b"))), True)
            self.assertEqual(how_many(tree, wants), 1)
            self.assertEqual(can_be(tree, wants, "x"), ["b"])
            self.assertEqual(with_value(tree, wants, "y", "c"), 4)
            self.assertEqual(with_value(tree, wants, "r", "d"), 5)
            self.assertEqual(with_value(tree, wants, "i", "a"), 3)
            self.assertIsNone(with_value(tree, wants, "i", "b"))
            self.assertEqual(must_write(tree, wants), ["i", "l", "r"])
            self.assertEqual(may_write(tree, wants), ["i", "l", "r"])
        for form in (list, as_lists, mixed):
            self.assertEqual(how_many(form(STAR), form(THREE)), 3)
            self.assertEqual(can_be(form(STAR), form(THREE), "r"), ["a", "b", "c"])
            self.assertEqual(with_value(form(STAR), form(THREE), "r", "d"), 4)
            self.assertEqual(may_write(form(STAR), form(THREE)), ["i", "j", "k", "r"])

    def test_arguments_by_their_names(self):
        self.assertIs(is_fewest(thing=(("i", "a"), ("l", "c"), ("r", "b")), wants=WANTS, tree=TREE), True)
        self.assertEqual(how_many(wants=THREE, tree=STAR), 3)
        self.assertEqual(can_be(folder="r", wants=THREE, tree=STAR), ["a", "b", "c"])
        self.assertEqual(with_value(value="c", folder="y", wants=WANTS, tree=TREE), 4)
        self.assertEqual(must_write(wants=WANTS, tree=TREE), ["i", "l", "r"])
        self.assertEqual(may_write(wants=THREE, tree=STAR), ["i", "j", "k", "r"])

    def test_nothing_that_is_passed_in_is_changed(self):
        tree, wants, thing = as_lists(TREE), as_lists(WANTS), [["i", "a"]]
        is_fewest(tree, wants, thing)
        how_many(tree, wants)
        can_be(tree, wants, "x")
        with_value(tree, wants, "x", "d")
        with_value(tree, wants, "i", "a")
        must_write(tree, wants)
        may_write(tree, wants)
        self.assertEqual((tree, wants, thing), (as_lists(TREE), as_lists(WANTS), [["i", "a"]]))

    def test_returned_lists_belong_to_the_caller(self):
        for call in (lambda: can_be(STAR, THREE, "r"), lambda: must_write(STAR, THREE), lambda: may_write(STAR, THREE)):
            expected = list(call())
            first, second = call(), call()
            self.assertIsNot(first, second)
            first.append("more")
            second.clear()
            self.assertEqual(call(), expected)

    def test_the_same_call_twice_gives_equal_results(self):
        chance = random.Random(17)
        for _ in range(10):
            tree = drawn_tree(chance, 10, lock=0.2)
            wants = drawn_wants(chance, tree, "abc", inner=0.2)
            for call in (how_many, must_write, may_write, lambda t, w: can_be(t, w, "aa"),
                         lambda t, w: with_value(t, w, "aa", "b"), lambda t, w: can_be(wants=w, folder="ab", tree=t)):
                first = call(tree, wants)
                self.assertEqual(call(tree, wants), first)
                self.assertEqual(call(as_lists(tree), as_lists(wants)), first)
                self.assertEqual(call(mixed(tree), list(wants)), first)

    def test_numbers_are_numbers(self):
        self.assertIs(type(how_many(STAR, THREE)), int)
        self.assertIs(type(with_value(STAR, THREE, "r", "d")), int)

    def test_what_is_returned_may_be_passed_in_again(self):
        plan = fewest_plan(TREE, WANTS)
        self.assertIs(is_plan(TREE, plan), True)
        self.assertEqual(how_many(TREE, plan), len(fewest_plans(TREE, plan, ("a", "b", "c"))))


class Sizes(Checking):
    def test_larger_trees_raise_nothing(self):
        chance = random.Random(18)
        for k in range(4):
            tree = drawn_tree(chance, 18 + 5 * k, lock=0.2)
            wants = drawn_wants(chance, tree, "abcdefgh", inner=0.2)
            self.assertLessEqual(1, how_many(tree, wants))
            self.assertTrue(set(must_write(tree, wants)) <= set(may_write(tree, wants)))
            for name, _, _ in tree:
                self.assertLessEqual(1, len(can_be(tree, wants, name)))
                self.assertLessEqual(fewest(tree, wants), with_value(tree, wants, name, can_be(tree, wants, name)[0]))
            self.assertIs(is_fewest(tree, wants, fewest_plan(tree, wants)), True)


if __name__ == "__main__":
    unittest.main()
