"""[2], [3]: the general rules and the bounds, for every function of all files."""

import copy
import importlib
import random
import unittest
from itertools import permutations

from handeddown import errors
from handeddown.data import are_pairs, is_plan, is_tree
from handeddown.routes import clash, fewest_plan, routes
from handeddown.texts import pairs_text, tree_text
from tests.lines import drawn_requests, text_of
from tests.samples import as_lists, chain, drawn_plan, drawn_tree, drawn_wants, mixed, star
from tests.test_interface import FUNCTIONS

OWN_ERRORS = ("NoWants", "Clashing", "IsRoot", "Locked", "Below", "BadText", "BadLine")


def named_functions():
    """All functions of the interface: their names, themselves, and the names of their arguments."""
    for file, functions in FUNCTIONS.items():
        module = importlib.import_module("handeddown." + file)
        for name, arguments in functions.items():
            yield name, getattr(module, name), arguments.split()


def thing_for(name, tree, wants, plan):
    """What the function tells True of, or might."""
    return {
        "is_tree": tree, "are_wants": wants, "is_plan": plan, "is_reason": routes(tree, wants),
        "is_fewest": fewest_plan(tree, wants)}.get(name)


def text_for(name, chance, tree, wants):
    if name == "answers":
        return text_of(tree, drawn_requests(chance, tree, 12))
    return tree_text(tree) if name == "tree_in" else pairs_text(wants)


def values_for(chance, name, tree, wants):
    """A dict of what each argument may be in a call of this function."""
    folders = [row[0] for row in tree]
    plan, other = drawn_plan(chance, tree), drawn_plan(chance, tree)
    folder = chance.choice(folders)
    if name == "costs":
        folder = chance.choice([one for one in folders if one not in dict(wants)] or [None])
    return {
        "tree": tree, "wants": wants, "plan": plan, "one": plan, "other": other, "pairs": plan,
        "reason": routes(tree, wants) or (), "thing": thing_for(name, tree, wants, plan),
        "folder": folder, "parent": chance.choice(folders), "value": chance.choice("abz"),
        "folders": chance.sample(folders, chance.randrange(len(folders) + 1)),
        "text": text_for(name, chance, tree, wants)}


def cases(seed, many, size=8):
    """Calls: a function's name, the function, and a dict of its arguments in their order."""
    chance = random.Random(seed)
    for k in range(many):
        tree = drawn_tree(chance, 2 + k % (size - 1), lock=(0.0, 0.5)[k % 2], near=(None, 1)[k % 5 == 0])
        wants = drawn_wants(chance, tree, "abc", inner=0.2)
        if k % 6 == 0:
            wants = ()
        elif k % 3 == 0:
            # These may clash.
            wants = tuple(sorted((row[0], chance.choice("ab")) for row in tree if chance.random() < 0.7))
        for name, function, arguments in named_functions():
            values = values_for(chance, name, tree, wants)
            if values["folder"] is not None:
                yield name, function, {argument: values[argument] for argument in arguments}


def told_by(call):
    """What the call returns or raises."""
    try:
        return "returned", call()
    except tuple(getattr(errors, name) for name in OWN_ERRORS) as error:
        return "raised", type(error).__name__, vars(error)


def outcome(function, values):
    """The arguments are passed in this order."""
    return told_by(lambda: function(*values.values()))


def outcome_by_names(function, values):
    return told_by(lambda: function(**values))


def in_form(form, values):
    """The arguments with lists for tuples, or the like, in all but the thing."""
    return {
        argument: form(value) if isinstance(value, (list, tuple)) and argument != "thing" else value
        for argument, value in values.items()}


def lists_in(value):
    """All lists within the value, itself included."""
    found = [value] if isinstance(value, list) else []
    if isinstance(value, (list, tuple)):
        for item in value:
            found = found + lists_in(item)
    return found


def is_pair(value):
    return type(value) is tuple and len(value) == 2


def is_truth(value):
    return value is True or value is False


def is_string(value):
    return type(value) is str


def is_number(value):
    return type(value) is int


def are_strings(value):
    return type(value) is list and all(type(item) is str for item in value)


def is_ascending(value):
    return list(value) == sorted(set(value))


def are_folders(value):
    return are_strings(value) and is_ascending(value)


def is_routes(value):
    return value is None or type(value) is tuple and all(map(is_pair, value)) and is_ascending(value)


def is_number_or_none(value):
    return value is None or is_number(value)


def two_numbers(value):
    return is_pair(value) and all(map(is_number, value))


def values_told(value):
    return type(value) is list and all(map(is_pair, value)) and is_ascending(value)


def told_pieces(value):
    return type(value) is list and is_ascending(value) and all(
        type(piece) is tuple and piece and is_ascending(piece) for piece in value)


# What each function returns, beside the tree where it is a PLAN of it.
KINDS = {
    "is_tree": is_truth,
    "are_wants": is_truth,
    "is_plan": is_truth,
    "value_of": is_string,
    "values_of": values_told,
    "serves": is_truth,
    "is_lean": is_truth,
    "tidied": are_pairs,
    "clash": lambda value: value is None or is_pair(value) and value[0] < value[1],
    "fewest": is_number_or_none,
    "fewest_plan": lambda value: value is None or are_pairs(value),
    "is_reason": is_truth,
    "routes": is_routes,
    "shown": is_number,
    "is_fewest": is_truth,
    "how_many": is_number,
    "can_be": are_folders,
    "with_value": is_number_or_none,
    "must_write": are_folders,
    "may_write": are_folders,
    "pieces": told_pieces,
    "exchanged": are_pairs,
    "edits": are_folders,
    "fewest_edits": two_numbers,
    "edited": are_pairs,
    "lean_edits": two_numbers,
    "lean_edited": are_pairs,
    "spared": are_folders,
    "core": are_pairs,
    "costs": is_number_or_none,
    "moved": is_tree,
    "places": lambda value: is_pair(value) and is_number(value[0]) and are_folders(value[1]),
    "tree_text": is_string,
    "tree_in": is_tree,
    "pairs_text": is_string,
    "pairs_in": are_pairs,
    "answers": are_strings,
}


class Rules(unittest.TestCase):
    def test_each_function_is_tried(self):
        tried = {name: set() for name, _, _ in named_functions()}
        for name, function, values in cases(141, 60):
            tried[name].add(outcome(function, values)[0])
        self.assertEqual(sorted(tried), sorted(KINDS))
        for name, seen in tried.items():
            self.assertIn("returned", seen, name)
        for name in ("how_many", "edited", "spared", "core", "costs", "moved", "places", "exchanged"):
            self.assertIn("raised", tried[name], name)

    def test_results_are_of_their_kinds(self):
        for name, function, values in cases(142, 60):
            for form in (tuple, as_lists):
                told = outcome(function, in_form(form, values))
                if told[0] == "returned":
                    self.assertTrue(KINDS[name](told[1]), (name, values, told))
                    if name in ("tidied", "exchanged", "edited", "lean_edited"):
                        self.assertTrue("tree" not in values or is_plan(values["tree"], told[1]), (name, values))

    def test_lists_for_tuples_and_tuples_for_lists_at_any_depth(self):
        for name, function, values in cases(143, 60):
            expected = outcome(function, values)
            for form in (list, as_lists, mixed, tuple):
                self.assertEqual(outcome(function, in_form(form, values)), expected, (name, values))

    def test_one_argument_alone_with_lists(self):
        for name, function, values in cases(144, 24):
            expected = outcome(function, values)
            for argument in values:
                if argument != "thing" and isinstance(values[argument], (list, tuple)):
                    for form in (as_lists, mixed):
                        told = outcome(function, {**values, argument: form(values[argument])})
                        self.assertEqual(told, expected, (name, values, argument))

    def test_things_are_not_taken_as_lists(self):
        for name, function, values in cases(145, 24):
            if values.get("thing"):
                for form in (list, as_lists):
                    told = outcome(function, {**values, "thing": form(values["thing"])})
                    self.assertIn(told[:2], (
                        ("returned", False), ("raised", "NoWants"), ("raised", "Clashing")), (name, values))

    def test_arguments_by_their_names_in_any_order(self):
        for name, function, values in cases(146, 18):
            expected = outcome(function, values)
            for order in permutations(values):
                told = outcome_by_names(function, {argument: values[argument] for argument in order})
                self.assertEqual(told, expected, (name, values))

    def test_nothing_that_is_passed_in_is_changed(self):
        for name, function, values in cases(147, 60):
            given = in_form(as_lists, values)
            before = copy.deepcopy(given)
            outcome(function, given)
            self.assertEqual(given, before, name)
            given = in_form(mixed, values)
            before = copy.deepcopy(given)
            outcome(function, given)
            self.assertEqual(given, before, name)

    def test_returned_lists_are_new_and_belong_to_the_caller(self):
        for name, function, values in cases(148, 60):
            given = in_form(as_lists, values)
            first, second = outcome(function, given), outcome(function, given)
            kept = copy.deepcopy(first)
            own = [id(one) for argument in given for one in lists_in(given[argument])]
            for one in lists_in(first[1]):
                self.assertNotIn(id(one), own, name)
                self.assertNotIn(id(one), [id(other) for other in lists_in(second[1])], name)
                one.append("more")
                one.reverse()
            self.assertEqual(second, kept, name)
            self.assertEqual(outcome(function, given), kept, name)

    def test_the_same_call_gives_an_equal_result_whatever_came_between(self):
        calls = list(cases(149, 24))
        told = [outcome(function, values) for _, function, values in calls]
        again = [outcome(function, values) for _, function, values in reversed(calls)][::-1]
        for (name, _, values), one, other in zip(calls, told, again):
            self.assertEqual(one, other, (name, values))

    def test_equal_arguments_that_are_other_objects(self):
        for name, function, values in cases(150, 24):
            other = copy.deepcopy(in_form(as_lists, values))
            self.assertEqual(outcome(function, other), outcome(function, values), name)


class Bounds(unittest.TestCase):
    def check(self, tree, wants):
        """All functions answer with a value, or with an error that the document names."""
        chance = random.Random(151)
        self.assertIsNone(clash(tree, wants))
        for name, function, arguments in named_functions():
            values = values_for(chance, name, tree, wants)
            if name == "core":
                values["wants"] = wants[:9 if len(tree) == 16 else 11]
            told = outcome(function, {argument: values[argument] for argument in arguments})
            if told[0] == "returned":
                self.assertTrue(KINDS[name](told[1]), (name, values, told))
            else:
                self.assertIn((name, told[1]), (
                    ("exchanged", "Locked"), ("moved", "IsRoot"), ("moved", "Below"), ("places", "IsRoot")))

    def test_sixteen_folders_and_six_values(self):
        chance = random.Random(152)
        for k in range(12):
            tree = drawn_tree(chance, 16, lock=(0.0, 0.2)[k % 2], near=(None, 1, 2, 4)[k % 4])
            self.check(tree, drawn_wants(chance, tree, "abcdef", inner=(0.0, 0.3, 0.6)[k % 3]))
        for tree in (chain(16), star(16), chain(16, locked=(3, 4, 9)), star(16, locked=(5, 11))):
            self.check(tree, drawn_wants(chance, tree, "abcdef", inner=0.4))

    def test_somewhat_beyond(self):
        chance = random.Random(153)
        for many in (17, 20, 24):
            tree = drawn_tree(chance, many, lock=0.2)
            self.check(tree, drawn_wants(chance, tree, "abcdefghi", inner=0.3))
        for tree in (chain(24), star(24)):
            self.check(tree, drawn_wants(chance, tree, "abcdefghi", inner=0.4))


if __name__ == "__main__":
    unittest.main()
