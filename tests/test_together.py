"""[1], [3]: what the functions of routes, every and edits guarantee together, at the bounds."""

import random
import unittest

from handeddown.edits import edited, edits, fewest_edits, lean_edited, lean_edits
from handeddown.every import can_be, exchanged, how_many, is_fewest, may_write, must_write, pieces, with_value
from handeddown.plans import is_lean, serves, values_of
from handeddown.routes import clash, fewest, fewest_plan, is_reason, routes, shown
from tests.brute import holds_as_reason
from tests.samples import chain, drawn_plan, drawn_tree, drawn_wants, leaves, letters_name, star


def cases(seed, many):
    """So many drawn trees of sixteen folders, and wants of up to six values at all leaves and some folders above."""
    chance = random.Random(seed)
    for k in range(many):
        tree = drawn_tree(chance, 16, lock=(0.0, 0.15, 0.4)[k % 3], near=(None, 1, 2, 4)[k % 4])
        wants = drawn_wants(chance, tree, "abcdef"[:2 + k % 5], inner=(0.0, 0.1, 0.3)[k // 2 % 3])
        yield chance, tree, wants
    for tree in (chain(16), star(16), chain(16, locked=(3, 4, 9)), star(16, locked=(5, 11))):
        for inner in (0.0, 0.3):
            yield chance, tree, drawn_wants(chance, tree, "abcdef", inner)


def some_fewest_plans(tree, wants):
    """Fewest plans: one for each value that each folder can have."""
    found = {}
    for name, _, _ in tree:
        for value in can_be(tree, wants, name):
            more = tuple(sorted({**dict(wants), name: value}.items()))
            found[fewest_plan(tree, more)] = True
    return list(found)


class Together(unittest.TestCase):
    def test_a_the_fewest_are_shown_by_a_plan_and_by_routes(self):
        for _, tree, wants in cases(41, 60):
            few = fewest(tree, wants)
            plan, reason = fewest_plan(tree, wants), routes(tree, wants)
            self.assertEqual((len(plan), shown(tree, wants, reason)), (few, few))
            self.assertTrue(serves(tree, wants, plan))
            self.assertTrue(is_lean(tree, plan))
            self.assertTrue(is_reason(tree, wants, reason))
            self.assertTrue(holds_as_reason(tree, wants, reason))

    def test_a_each_route_changes_the_value_somewhere_of_its_own(self):
        for chance, tree, wants in cases(42, 30):
            served = edited(tree, wants, drawn_plan(chance, tree))
            values = dict(values_of(tree, served))
            changes = [name for name, parent, _ in tree if parent is not None and values[name] != values[parent]]
            self.assertLessEqual(len(routes(tree, wants)), len(changes))

    def test_b_all_fewest_plans_are_told(self):
        for _, tree, wants in cases(43, 30):
            found = some_fewest_plans(tree, wants)
            self.assertLessEqual(len(found), how_many(tree, wants))
            self.assertEqual(len(found) == 1, how_many(tree, wants) == 1)
            must, may = set(must_write(tree, wants)), set(may_write(tree, wants))
            for plan in found:
                self.assertIs(is_fewest(tree, wants, plan), True)
                written = {name for name, _ in plan}
                self.assertTrue(must <= written <= may, (tree, wants, plan))
                for name, value in values_of(tree, plan):
                    self.assertIn(value, can_be(tree, wants, name))

    def test_b_one_becomes_another_piece_by_piece(self):
        for _, tree, wants in cases(44, 20):
            found = some_fewest_plans(tree, wants)
            for one, other in list(zip(found, found[1:] + found[:1]))[:8]:
                plan = one
                for piece in pieces(tree, one, other):
                    plan = exchanged(tree, plan, other, piece)
                    self.assertIs(is_fewest(tree, wants, plan), True, (tree, wants, one, other, piece))
                self.assertEqual(plan, other)

    def test_c_edits_and_settings(self):
        for chance, tree, wants in cases(45, 40):
            plan = drawn_plan(chance, tree)
            few, lean = edited(tree, wants, plan), lean_edited(tree, wants, plan)
            self.assertEqual((len(edits(plan, few)), len(few)), fewest_edits(tree, wants, plan))
            self.assertEqual((len(lean), len(edits(plan, lean))), lean_edits(tree, wants, plan))
            self.assertIs(is_fewest(tree, wants, lean), True)
            self.assertTrue(serves(tree, wants, few))
            # No fewest plan that is known is nearer, and none that is as near as the nearest has fewer settings.
            for other in some_fewest_plans(tree, wants):
                away = len(edits(plan, other))
                self.assertLessEqual(len(edits(plan, lean)), away)
                self.assertLessEqual((len(edits(plan, few)), len(few)), (away, len(other)))

    def test_all_fewest_plans_of_stars_are_tried(self):
        # By values at the root that are as common, so all can be told.
        names = leaves(star(13))
        wants = tuple(zip(names, "aaabbbcccddd"))
        found = some_fewest_plans(star(13), wants)
        self.assertEqual(len(found), 4)
        self.assertEqual(how_many(star(13), wants), 4)
        for plan in found:
            self.assertEqual(len(plan), 10)
            away = [(len(edits(plan, other)), len(other)) for other in found if other != plan]
            self.assertEqual(away, [(7, 10)] * 3)

    def test_every_function_answers_somewhat_beyond_the_bounds(self):
        chance = random.Random(46)
        for many in (17, 20, 26):
            tree = drawn_tree(chance, many, lock=0.2)
            wants = drawn_wants(chance, tree, "abcdefghi", inner=0.3)
            plan, other = drawn_plan(chance, tree), fewest_plan(tree, wants)
            self.assertIsNone(clash(tree, wants))
            self.assertEqual(shown(tree, wants, routes(tree, wants)), fewest(tree, wants))
            self.assertIs(is_reason(tree, wants, routes(tree, wants)), True)
            self.assertIs(is_fewest(tree, wants, other), True)
            self.assertLessEqual(1, how_many(tree, wants))
            self.assertTrue(set(must_write(tree, wants)) <= set(may_write(tree, wants)))
            self.assertEqual(
                with_value(tree, wants, "aa", can_be(tree, wants, "aa")[0]), fewest(tree, wants))
            self.assertEqual(exchanged(tree, other, plan, []), other)
            self.assertEqual(
                sorted(sum(map(list, pieces(tree, plan, other)), [])),
                [one[0] for one, two in zip(values_of(tree, plan), values_of(tree, other)) if one != two])
            self.assertEqual(edits(other, lean_edited(tree, wants, other)), [])
            self.assertEqual(lean_edits(tree, wants, other), (len(other), 0))
            self.assertEqual(fewest_edits(tree, wants, edited(tree, wants, plan))[0], 0)

    def test_names_of_eight_letters_and_many_values(self):
        names = [letters_name(k) * 4 for k in range(20)]
        tree = ((names[0], None, False),) + tuple((name, names[0], False) for name in names[1:])
        wants = tuple((name, name) for name in names)
        self.assertEqual(fewest(tree, wants), 20)
        self.assertEqual(len(routes(tree, wants)), 19)
        self.assertEqual(how_many(tree, wants), 1)
        self.assertEqual(fewest_edits(tree, wants, ((names[0], names[1]),)), (20, 20))


if __name__ == "__main__":
    unittest.main()
