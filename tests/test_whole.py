"""[1]: what all functions keep together, seen from outside, on small drawn trees."""

import random
import unittest

from handeddown.data import is_tree
from handeddown.desk import answers
from handeddown.edits import edits, fewest_edits, lean_edits
from handeddown.every import can_be, how_many, may_write, must_write, with_value
from handeddown.places import moved, places
from handeddown.plans import serves, value_of
from handeddown.routes import clash, fewest, fewest_plan, is_reason, routes
from handeddown.texts import pairs_in, pairs_text, tree_in, tree_text
from handeddown.wants import core, costs, spared
from tests.brute import parents_for
from tests.samples import chain, drawn_plan, drawn_tree, drawn_wants, leaves, letters_name, star

# What nobody wants or writes.
NEW = "z"


def cases(seed, many, size=8, locks=(0.0, 0.3)):
    """So many drawn trees, wants of them and plans."""
    chance = random.Random(seed)
    for k in range(many):
        tree = drawn_tree(chance, 2 + k % (size - 1), lock=locks[k % len(locks)], near=(None, 1, 3)[k % 5 % 3])
        wants = drawn_wants(chance, tree, "abcd"[:2 + k % 3], inner=(0.0, 0.2, 0.5)[k % 4 % 3])
        yield chance, tree, wants, drawn_plan(chance, tree)


def names_of(tree):
    return [row[0] for row in tree]


def told(tree, wants, plan):
    """All that is told by numbers and by folders, none of which depends on how things are called."""
    names = names_of(tree)
    free = [name for name in names if name not in dict(wants)]
    return {
        "fewest": fewest(tree, wants), "routes": len(routes(tree, wants)), "many": how_many(tree, wants),
        "can": {name: set(can_be(tree, wants, name)) for name in names},
        "with": {(name, value): with_value(tree, wants, name, value) for name in names for value in "abcd" + NEW},
        "must": set(must_write(tree, wants)), "may": set(may_write(tree, wants)),
        "edits": fewest_edits(tree, wants, plan) + lean_edits(tree, wants, plan),
        "spared": set(spared(tree, wants)), "core": len(core(tree, wants)),
        "costs": {name: costs(tree, wants, name) for name in free},
        "places": {name: as_set(places(tree, wants, name)) for name in names[1:] if can_stand(tree, wants, name)},
    }


def can_stand(tree, wants, folder):
    return any(clash(moved(tree, folder, parent), wants) is None for parent in parents_for(tree, folder))


def as_set(pair):
    return pair[0], set(pair[1])


def called(found, names, values):
    """What was told, with folders and values called by others."""
    return {
        **found,
        "can": {names[name]: {values[value] for value in found["can"][name]} for name in found["can"]},
        "with": {(names[name], values[value]): few for (name, value), few in found["with"].items()},
        "must": {names[name] for name in found["must"]}, "may": {names[name] for name in found["may"]},
        "spared": {names[name] for name in found["spared"]},
        "costs": {names[name]: many for name, many in found["costs"].items()},
        "places": {names[name]: (few, {names[parent] for parent in parents})
                   for name, (few, parents) in found["places"].items()},
    }


def pairs_called(pairs, names, values):
    return tuple(sorted((names[name], values[value]) for name, value in pairs))


def exchanged_words(chance, words):
    """A dict of each word and another one of them."""
    others = list(words)
    chance.shuffle(others)
    return dict(zip(words, others))


def reordered(chance, tree):
    """The same tree with its rows in another order."""
    rows = [tree[0]]
    left = list(tree[1:])
    while left:
        ready = [row for row in left if row[1] in names_of(rows)]
        row = chance.choice(ready)
        rows.append(row)
        left.remove(row)
    return tuple(rows)


def heads_of(tree):
    """The folder with which each one has one value by every plan, at or above it."""
    heads = {}
    for name, parent, is_locked in tree:
        heads[name] = heads[parent] if is_locked else name
    return heads


def without_locks(tree, wants):
    """The tree and its wants with the folders that are tied put together."""
    heads = heads_of(tree)
    rows = tuple((name, heads.get(parent), False) for name, parent, is_locked in tree if not is_locked)
    return rows, tuple(sorted({(heads[name], value) for name, value in wants}))


class Exchanged(unittest.TestCase):
    def test_other_names(self):
        for chance, tree, wants, plan in cases(161, 60):
            names = exchanged_words(chance, names_of(tree))
            values = {value: value for value in "abcd" + NEW}
            other = tuple((names[name], names.get(parent), is_locked) for name, parent, is_locked in tree)
            self.assertIs(is_tree(other), True)
            self.assertEqual(
                told(other, pairs_called(wants, names, values), pairs_called(plan, names, values)),
                called(told(tree, wants, plan), names, values))

    def test_other_values(self):
        for chance, tree, wants, plan in cases(162, 60):
            names = {name: name for name in names_of(tree)}
            values = {**exchanged_words(chance, "abcd"), NEW: NEW}
            other = pairs_called(wants, names, values)
            self.assertEqual(
                told(tree, other, pairs_called(plan, names, values)), called(told(tree, wants, plan), names, values))
            self.assertEqual([name for name, _ in core(tree, other)], [name for name, _ in core(tree, wants)])

    def test_another_order_of_the_rows(self):
        for chance, tree, wants, plan in cases(163, 60):
            other = reordered(chance, tree)
            self.assertEqual(told(other, wants, plan), told(tree, wants, plan))
            self.assertEqual(core(other, wants), core(tree, wants))
            self.assertEqual(spared(other, wants), spared(tree, wants))
            for name in names_of(tree)[1:]:
                if can_stand(tree, wants, name):
                    self.assertEqual(places(other, wants, name), places(tree, wants, name))


class TiedFolders(unittest.TestCase):
    def test_they_count_as_one(self):
        for chance, tree, wants, plan in cases(164, 80, locks=(0.3, 0.6)):
            heads = heads_of(tree)
            other, asked = without_locks(tree, wants)
            self.assertEqual(fewest(tree, wants), fewest(other, asked))
            self.assertEqual(how_many(tree, wants), how_many(other, asked))
            self.assertEqual(must_write(tree, wants), must_write(other, asked))
            self.assertEqual(may_write(tree, wants), may_write(other, asked))
            self.assertEqual(fewest_edits(tree, wants, plan), fewest_edits(other, asked, plan))
            self.assertEqual(lean_edits(tree, wants, plan), lean_edits(other, asked, plan))
            self.assertEqual(len(core(tree, wants)), len(core(other, asked)))
            for name in names_of(tree):
                self.assertEqual(value_of(tree, plan, name), value_of(other, plan, heads[name]))
                self.assertEqual(can_be(tree, wants, name), can_be(other, asked, heads[name]))
                for value in "ab" + NEW:
                    self.assertEqual(
                        with_value(tree, wants, name, value), with_value(other, asked, heads[name], value))
                if name not in dict(wants):
                    is_asked = heads[name] in dict(asked)
                    self.assertEqual(
                        costs(tree, wants, name), None if is_asked else costs(other, asked, heads[name]))

    def test_of_wants_of_tied_folders_none_alone_is_spared(self):
        for chance, tree, wants, _ in cases(165, 60, locks=(0.3, 0.6)):
            heads = heads_of(tree)
            other, asked = without_locks(tree, wants)
            groups = [heads[name] for name, _ in wants]
            self.assertEqual(
                spared(tree, wants),
                [name for name, _ in wants if groups.count(heads[name]) == 1 and heads[name] in spared(other, asked)])
            # Of each group the core has the least one, if any.
            for name, _ in core(tree, wants):
                self.assertEqual(name, min(one for one, _ in wants if heads[one] == heads[name]))


class LeavesWithoutWants(unittest.TestCase):
    def test_they_change_nothing(self):
        for chance, tree, wants, plan in cases(166, 60):
            parent, is_locked = chance.choice(names_of(tree)), chance.random() < 0.5
            more = tree + (("leaf", parent, is_locked),)
            first, second = told(tree, wants, plan), told(more, wants, plan)
            self.assertEqual(second["can"].pop("leaf"), first["can"][parent])
            below = second["costs"].pop("leaf")
            if is_locked:
                self.assertEqual(below, None if parent in dict(wants) else first["costs"][parent])
            else:
                self.assertEqual(below, 1)
            if not is_locked:
                self.assertEqual(second["places"].pop("leaf"), (fewest(tree, wants), set(names_of(tree))))
            second["places"].pop("leaf", None)
            for name, (few, parents) in first["places"].items():
                self.assertEqual(second["places"][name][0], few)
                self.assertEqual(second["places"][name][1] - {"leaf"}, parents)
            second["with"] = {key: few for key, few in second["with"].items() if key[0] != "leaf"}
            self.assertEqual({**second, "places": None}, {**first, "places": None})
            self.assertEqual(core(more, wants), core(tree, wants))
            self.assertEqual(len(routes(more, wants)), len(routes(tree, wants)))


class TwoTrees(unittest.TestCase):
    def test_below_one_root(self):
        chance = random.Random(167)
        for k in range(60):
            trees = [drawn_tree(chance, 1 + chance.randrange(5), lock=(0.0, 0.3)[k % 2]) for _ in range(2)]
            wants = [drawn_wants(chance, tree, "abc", inner=0.2) for tree in trees]
            rows, asked = [("top", None, False)], []
            for mark, tree, pairs in zip("xy", trees, wants):
                rows += [(mark + name, "top" if parent is None else mark + parent, is_locked)
                         for name, parent, is_locked in tree]
                asked += [(mark + name, value) for name, value in pairs]
            both, asked = tuple(rows), tuple(sorted(asked))
            self.check_both(trees, wants, both, asked)

    def check_both(self, trees, wants, both, asked):
        tops = [set(can_be(tree, pairs, tree[0][0])) for tree, pairs in zip(trees, wants)]
        parts = [fewest(tree, pairs) for tree, pairs in zip(trees, wants)]
        common = tops[0] & tops[1]
        self.assertEqual(fewest(both, asked), sum(parts) - bool(common))
        self.assertEqual(set(can_be(both, asked, "top")), common or tops[0] | tops[1])
        if common:
            self.assertEqual(
                how_many(both, asked),
                sum(self.ways(trees[0], wants[0], value) * self.ways(trees[1], wants[1], value) for value in common))
        for mark, tree, pairs in zip("xy", trees, wants):
            # What is wanted in the one alone has no part in the other one.
            alone = tuple((mark + name, value) for name, value in pairs)
            self.assertEqual(fewest(both, alone), fewest(tree, pairs))
            self.assertEqual(how_many(both, alone), how_many(tree, pairs))
            self.assertEqual([pair[0] for pair in core(both, alone)], [mark + name for name, _ in core(tree, pairs)])
            self.assertEqual(spared(both, alone), [mark + name for name in spared(tree, pairs)])

    def ways(self, tree, wants, value):
        """How many fewest plans give the root this value, which it can have by some."""
        return how_many(tree, tuple(sorted({**dict(wants), tree[0][0]: value}.items())))


class OneWantMore(unittest.TestCase):
    def test_it_costs_what_is_told(self):
        for chance, tree, wants, _ in cases(168, 80):
            few = fewest(tree, wants)
            for name in names_of(tree):
                if name not in dict(wants):
                    dear = costs(tree, wants, name)
                    for value in "abcd" + NEW:
                        more = tuple(sorted(wants + ((name, value),)))
                        found = fewest(tree, more)
                        self.assertEqual(found, with_value(tree, wants, name, value))
                        self.assertEqual(found == few, value in can_be(tree, wants, name))
                        self.assertEqual(found is None, clash(tree, more) is not None)
                        if value == NEW:
                            self.assertEqual(dear, None if found is None else found - few)
                        elif dear is not None:
                            # A value that somebody wants costs as much as one that nobody wants, or less.
                            self.assertIn(found - few, range(dear + 1))

    def test_one_want_less_saves_one_setting_for_each_that_it_costs(self):
        for chance, tree, wants, _ in cases(169, 60):
            for name, value in wants:
                rest = tuple(want for want in wants if want[0] != name)
                if rest:
                    saved = fewest(tree, wants) - fewest(tree, rest)
                    self.assertEqual(saved == 0, value in can_be(tree, rest, name))
                    self.assertEqual(saved > 0, name in spared(tree, wants))
                    self.assertEqual(with_value(tree, rest, name, value), fewest(tree, wants))


class Moves(unittest.TestCase):
    def test_fewest_changes_by_one_at_most(self):
        for chance, tree, wants, _ in cases(170, 60, locks=(0.0, 0.2, 0.4)):
            for name, _, is_locked in tree[1:]:
                if not is_locked:
                    numbers = {}
                    for parent in parents_for(tree, name):
                        numbers[parent] = fewest(moved(tree, name, parent), wants)
                        self.assertIn(numbers[parent] - fewest(tree, wants), (-1, 0, 1))
                    least = min(numbers.values())
                    self.assertEqual(
                        places(tree, wants, name),
                        (least, sorted(parent for parent in numbers if numbers[parent] == least)))

    def test_a_folder_that_is_put_where_it_is_best_stays_best_there(self):
        for chance, tree, wants, _ in cases(171, 40):
            for name in names_of(tree)[1:]:
                if can_stand(tree, wants, name):
                    few, parents = places(tree, wants, name)
                    for parent in parents:
                        away = moved(tree, name, parent)
                        self.assertEqual(fewest(away, wants), few)
                        self.assertEqual(places(away, wants, name), (few, parents))


class Plans(unittest.TestCase):
    def test_edits_change_what_is_missing_by_their_number_at_most(self):
        for chance, tree, wants, plan in cases(172, 60):
            other = drawn_plan(chance, tree)
            first, second = fewest_edits(tree, wants, plan), fewest_edits(tree, wants, other)
            self.assertLessEqual(abs(first[0] - second[0]), len(edits(plan, other)))
            first, second = lean_edits(tree, wants, plan), lean_edits(tree, wants, other)
            self.assertEqual(first[0], second[0])
            self.assertLessEqual(abs(first[1] - second[1]), len(edits(plan, other)))
            self.assertEqual(fewest_edits(tree, wants, plan)[0] == 0, serves(tree, wants, plan))

    def test_a_core_is_shown_by_as_many_routes(self):
        for chance, tree, wants, _ in cases(173, 60):
            least = core(tree, wants)
            self.assertEqual(fewest(tree, least), fewest(tree, wants))
            self.assertIs(is_reason(tree, wants, routes(tree, least)), True)
            self.assertEqual(len(routes(tree, least)), len(routes(tree, wants)))


class Shapes(unittest.TestCase):
    def test_chains(self):
        chance = random.Random(174)
        for _ in range(60):
            many = chance.randrange(1, 13)
            tree = chain(many)
            at = sorted(chance.sample(range(many), chance.randrange(1, min(many, 8) + 1)))
            wants = tuple((letters_name(k), chance.choice("abc")) for k in at)
            gaps = [at[k + 1] - at[k] for k in range(len(at) - 1) if wants[k][1] != wants[k + 1][1]]
            ways = 1
            for gap in gaps:
                ways *= gap
            self.assertEqual(fewest(tree, wants), 1 + len(gaps))
            self.assertEqual(how_many(tree, wants), ways)
            # Of each run of alike wants one is enough, the first one of it; where all are alike, none.
            firsts = tuple(
                want for k, want in enumerate(wants) if k == 0 or wants[k - 1][1] != want[1]) if gaps else ()
            self.assertEqual(core(tree, wants), firsts)

    def test_stars(self):
        chance = random.Random(175)
        for _ in range(60):
            tree = star(chance.randrange(2, 11))
            wants = tuple((name, chance.choice("abc")) for name in leaves(tree))
            counts = [[value for _, value in wants].count(value) for value in "abc"]
            most = max(counts)
            self.assertEqual(fewest(tree, wants), 1 + len(wants) - most)
            self.assertEqual(how_many(tree, wants), counts.count(most))
            self.assertEqual(can_be(tree, wants, "aa"), [value for value, k in zip("abc", counts) if k == most])
            self.assertEqual(costs(tree, wants, "aa"), most)
            # No more of the most frequent value are needed than there are of the next one.
            second = sorted(counts)[-2]
            self.assertEqual(len(core(tree, wants)), sum(counts) - most + second)

    def test_everything_is_wanted(self):
        chance = random.Random(176)
        for k in range(60):
            tree = drawn_tree(chance, 1 + k % 9)
            wants = tuple(sorted((name, chance.choice("abc")) for name in names_of(tree)))
            values = dict(wants)
            changes = [name for name, parent, _ in tree[1:] if values[name] != values[parent]]
            written = sorted(changes + [tree[0][0]])
            self.assertEqual(fewest(tree, wants), len(written))
            self.assertEqual(how_many(tree, wants), 1)
            self.assertEqual(must_write(tree, wants), written)
            self.assertEqual(may_write(tree, wants), written)
            self.assertEqual(fewest_plan(tree, wants), tuple((name, values[name]) for name in written))
            for name in names_of(tree):
                self.assertEqual(can_be(tree, wants, name), [values[name]])
                for value in "abc" + NEW:
                    few = with_value(tree, wants, name, value)
                    self.assertEqual(few, len(written) if value == values[name] else None)


class Texts(unittest.TestCase):
    def test_a_desk_tells_what_the_functions_tell(self):
        for chance, tree, wants, plan in cases(177, 60):
            tree, wants, plan = tree_in(tree_text(tree)), pairs_in(pairs_text(wants)), pairs_in(pairs_text(plan))
            lines = [tree_text(tree), ""]
            lines += ["want " + name + " " + value for name, value in wants]
            lines += ["write " + name + " " + value for name, value in plan]
            asked = len(wants) + len(plan)
            lines += ["serves", "fewest", "many", "must", "core", "edits"]
            lines += ["can " + name for name in names_of(tree)] + ["value " + name for name in names_of(tree)]
            few, lean = fewest_edits(tree, wants, plan), lean_edits(tree, wants, plan)
            self.assertEqual(
                answers("\n".join(lines)),
                ["done"] * asked + [
                    "yes" if serves(tree, wants, plan) else "no", str(fewest(tree, wants)), str(how_many(tree, wants)),
                    " ".join(must_write(tree, wants)), pairs_text(core(tree, wants)),
                    " ".join(map(str, few + lean))]
                + [" ".join(can_be(tree, wants, name)) for name in names_of(tree)]
                + [value_of(tree, plan, name) for name in names_of(tree)])


if __name__ == "__main__":
    unittest.main()
