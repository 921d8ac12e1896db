"""[13]: answers."""

import random
import unittest

from handeddown.data import are_wants, is_plan, is_tree
from handeddown.desk import answers
from handeddown.edits import fewest_edits, lean_edits
from handeddown.errors import BadLine
from handeddown.every import can_be, how_many, must_write
from handeddown.plans import serves, value_of
from handeddown.routes import clash, fewest
from handeddown.texts import pairs_text, tree_text
from handeddown.wants import core
from tests.brute import moved_rows, stands_in
from tests.lines import WRONG_NAMES, drawn_requests, first_wrong_line, row_lines, text_of
from tests.samples import LOCKED, ROOT, STAR, TREE, chain, drawn_tree, star

QUESTIONS = ("serves", "fewest", "many", "must", "edits", "core")
REQUESTS = QUESTIONS + (
    "want i a", "drop i", "write i a", "clear i", "value i", "can i", "move i j", "want r none", "move r r")


class Replayed:
    """A desk of the tests' own: what is there after each request, and what is to be answered."""

    def __init__(self, tree):
        self.tree = tree
        self.wants = {}
        self.plan = {tree[0][0]: "none"}

    def told(self, request):
        first, *words = request.split(" ")
        return getattr(self, "to_" + first)(*words)

    def pairs(self, table):
        return tuple(sorted(table.items()))

    def refusal(self):
        """What fewest plans cannot be told without."""
        if not self.wants:
            return "refused NoWants"
        return self.clash_refusal()

    def clash_refusal(self):
        return None if clash(self.tree, self.pairs(self.wants)) is None else "refused Clashing"

    def to_want(self, folder, value):
        self.wants[folder] = value
        return "done"

    def to_drop(self, folder):
        self.wants.pop(folder, None)
        return "done"

    def to_write(self, folder, value):
        if [row for row in self.tree if row[0] == folder and row[2]]:
            return "refused Locked"
        self.plan[folder] = value
        return "done"

    def to_clear(self, folder):
        if folder == self.tree[0][0]:
            return "refused IsRoot"
        self.plan.pop(folder, None)
        return "done"

    def to_value(self, folder):
        return value_of(self.tree, self.pairs(self.plan), folder)

    def to_serves(self):
        return "yes" if serves(self.tree, self.pairs(self.wants), self.pairs(self.plan)) else "no"

    def to_fewest(self):
        few = fewest(self.tree, self.pairs(self.wants))
        return "impossible" if few is None else str(few)

    def to_many(self):
        return self.refusal() or str(how_many(self.tree, self.pairs(self.wants)))

    def to_can(self, folder):
        return self.refusal() or " ".join(can_be(self.tree, self.pairs(self.wants), folder))

    def to_must(self):
        return self.refusal() or " ".join(must_write(self.tree, self.pairs(self.wants)))

    def to_edits(self):
        if self.clash_refusal():
            return "refused Clashing"
        told = self.tree, self.pairs(self.wants), self.pairs(self.plan)
        return "{} {} {} {}".format(*fewest_edits(*told), *lean_edits(*told))

    def to_core(self):
        return self.clash_refusal() or pairs_text(core(self.tree, self.pairs(self.wants)))

    def to_move(self, folder, parent):
        if folder == self.tree[0][0]:
            return "refused IsRoot"
        if stands_in(self.tree, parent, folder):
            return "refused Below"
        self.tree = moved_rows(self.tree, folder, parent)
        return "done"


class Checking(unittest.TestCase):
    def check(self, tree, dialog):
        """A dialog is a list of pairs (request, answer)."""
        found = answers(text_of(tree, [request for request, _ in dialog]))
        self.assertIs(type(found), list)
        for line in found:
            self.assertIs(type(line), str)
        self.assertEqual(list(zip([request for request, _ in dialog], found)), dialog)
        self.assertEqual(len(found), len(dialog))

    def check_replayed(self, tree, requests):
        desk = Replayed(tree)
        dialog = [(request, desk.told(request)) for request in requests]
        self.check(tree, dialog)
        # What is there stays what it has to be.
        self.assertIs(is_tree(desk.tree), True)
        self.assertIs(are_wants(desk.tree, desk.pairs(desk.wants)), True)
        self.assertIs(is_plan(desk.tree, desk.pairs(desk.plan)), True)
        return [answer for _, answer in dialog]

    def check_bad(self, text, number):
        with self.assertRaises(BadLine) as caught:
            answers(text)
        self.assertIs(type(caught.exception), BadLine)
        self.assertIsInstance(caught.exception, ValueError)
        self.assertIs(type(caught.exception.number), int)
        self.assertEqual(caught.exception.number, number, repr(text))
        self.assertEqual(first_wrong_line(text), number, repr(text))

    def check_bad_request(self, tree, request):
        """Alone, behind and ahead of others, right and wrong ones."""
        first = len(tree) + 1
        self.check_bad(text_of(tree, [request]), first)
        self.check_bad(text_of(tree, ["fewest", request]), first + 1)
        self.check_bad(text_of(tree, [request, "fewest"]), first)
        self.check_bad(text_of(tree, ["serves", "fewest", request, "no such", request]), first + 2)


class Examples(Checking):
    def test_that_of_the_document(self):
        self.assertEqual(
            answers("root r\nfolder i r\nfolder j r\n\nwant i a\nwant j b\nfewest\nmany\ncan r\nwrite r a\nserves\n"
                    "edits\nmove i j\nfewest"),
            ["done", "done", "2", "2", "a b", "done", "no", "1 2 2 1", "done", "2"])


class Rows(Checking):
    """Each row of the table."""

    def test_at_first(self):
        for tree, name in ((ROOT, "r"), (STAR, "k"), (LOCKED, "d"), (LOCKED, "c")):
            self.check(tree, [
                ("value " + name, "none"), ("value r", "none"), ("serves", "yes"), ("fewest", "1"), ("core", "-"),
                ("edits", "0 1 1 0"), ("many", "refused NoWants"), ("can " + name, "refused NoWants"),
                ("must", "refused NoWants")])

    def test_the_value_none_may_be_wanted(self):
        self.check(STAR, [("want i none", "done"), ("serves", "yes"), ("edits", "0 1 1 0"), ("can r", "none")])

    def test_want(self):
        self.check(STAR, [
            ("want i a", "done"), ("can i", "a"), ("serves", "no"), ("want j b", "done"), ("fewest", "2"),
            ("core", "i=a j=b")])

    def test_want_in_place_of_an_elder_one(self):
        self.check(STAR, [
            ("want i a", "done"), ("want j b", "done"), ("want i b", "done"), ("fewest", "1"), ("can i", "b"),
            ("many", "1"), ("want i b", "done"), ("fewest", "1")])

    def test_drop(self):
        self.check(STAR, [
            ("want i a", "done"), ("want j b", "done"), ("drop i", "done"), ("fewest", "1"), ("can i", "b"),
            ("drop j", "done"), ("many", "refused NoWants"), ("fewest", "1")])

    def test_drop_where_there_is_no_want(self):
        self.check(STAR, [
            ("drop i", "done"), ("serves", "yes"), ("want j b", "done"), ("drop i", "done"), ("drop r", "done"),
            ("can j", "b"), ("drop j", "done"), ("drop j", "done"), ("fewest", "1"), ("core", "-")])

    def test_write(self):
        self.check(STAR, [
            ("write i a", "done"), ("value i", "a"), ("value j", "none"), ("write i b", "done"), ("value i", "b"),
            ("write r c", "done"), ("value i", "b"), ("value j", "c"), ("value r", "c"), ("edits", "0 2 1 1")])

    def test_write_of_a_locked_folder(self):
        self.check(LOCKED, [
            ("write b v", "refused Locked"), ("value b", "none"), ("write e v", "refused Locked"), ("value e", "none"),
            ("write a v", "done"), ("write c w", "refused Locked"), ("value c", "v"), ("value b", "v"),
            ("edits", "0 2 1 1")])

    def test_clear(self):
        self.check(STAR, [
            ("write i a", "done"), ("clear i", "done"), ("value i", "none"), ("edits", "0 1 1 0"), ("clear i", "done"),
            ("clear j", "done"), ("value j", "none"), ("edits", "0 1 1 0")])

    def test_clear_of_the_root(self):
        self.check(STAR, [
            ("clear r", "refused IsRoot"), ("value r", "none"), ("write r a", "done"), ("clear r", "refused IsRoot"),
            ("value r", "a"), ("value i", "a")])

    def test_clear_of_a_locked_folder(self):
        self.check(LOCKED, [("write a v", "done"), ("clear b", "done"), ("clear e", "done"), ("value b", "v")])

    def test_value(self):
        self.check(TREE, [
            ("write x b", "done"), ("write i a", "done"), ("value r", "none"), ("value x", "b"), ("value i", "a"),
            ("value j", "b"), ("value k", "none"), ("clear x", "done"), ("value j", "none"), ("value i", "a")])

    def test_serves(self):
        self.check(STAR, [
            ("want i a", "done"), ("serves", "no"), ("write i a", "done"), ("serves", "yes"), ("want r none", "done"),
            ("serves", "yes"), ("want k a", "done"), ("serves", "no"), ("write r a", "done"), ("serves", "no"),
            ("drop r", "done"), ("serves", "yes")])

    def test_fewest(self):
        self.check(TREE, [
            ("want i a", "done"), ("want j b", "done"), ("want k b", "done"), ("fewest", "2"), ("want l c", "done"),
            ("fewest", "3"), ("write i a", "done"), ("fewest", "3")])

    def test_fewest_with_a_clash(self):
        self.check(LOCKED, [
            ("want a v", "done"), ("want c w", "done"), ("fewest", "impossible"), ("want c v", "done"),
            ("fewest", "1")])

    def test_many_can_and_must(self):
        self.check(STAR, [
            ("want i a", "done"), ("want j b", "done"), ("want k c", "done"), ("many", "3"), ("can r", "a b c"),
            ("can i", "a"), ("must", "r"), ("want k b", "done"), ("many", "1"), ("can r", "b"), ("must", "i r"),
            ("want r d", "done"), ("must", "i j k r"), ("many", "1"), ("can r", "d")])

    def test_edits(self):
        self.check(STAR, [
            ("write i a", "done"), ("write j a", "done"), ("write k a", "done"), ("write r a", "done"),
            ("want j b", "done"), ("want k b", "done"), ("edits", "2 4 1 4")])

    def test_core(self):
        self.check(TREE, [
            ("core", "-"), ("want l c", "done"), ("core", "-"), ("want k b", "done"), ("want j b", "done"),
            ("want i a", "done"), ("core", "i=a j=b l=c"), ("drop l", "done"), ("core", "i=a j=b"), ("drop i", "done"),
            ("core", "-")])

    def test_what_is_refused_with_a_clash(self):
        self.check(LOCKED, [
            ("want r v", "done"), ("want e w", "done"), ("many", "refused Clashing"), ("can d", "refused Clashing"),
            ("can r", "refused Clashing"), ("must", "refused Clashing"), ("edits", "refused Clashing"),
            ("core", "refused Clashing"), ("fewest", "impossible"), ("serves", "no"), ("value e", "none"),
            ("drop e", "done"), ("many", "1"), ("can d", "v"), ("must", "r"), ("edits", "1 1 1 1"), ("core", "-"),
            ("fewest", "1")])

    def test_what_is_refused_without_wants(self):
        self.check(LOCKED, [
            ("many", "refused NoWants"), ("can e", "refused NoWants"), ("must", "refused NoWants"),
            ("fewest", "1"), ("core", "-"), ("edits", "0 1 1 0")])

    def test_move(self):
        self.check(TREE, [
            ("write x b", "done"), ("value k", "none"), ("move k x", "done"), ("value k", "b"), ("move x l", "done"),
            ("value k", "b"), ("value x", "b"), ("write y c", "done"), ("clear x", "done"), ("value k", "c"),
            ("value i", "c"), ("move y r", "done"), ("value k", "c")])

    def test_move_of_the_root(self):
        self.check(TREE, [
            ("move r x", "refused IsRoot"), ("move r r", "refused IsRoot"), ("write x a", "done"), ("value i", "a"),
            ("value r", "none")])

    def test_move_below_itself(self):
        self.check(TREE, [
            ("move x x", "refused Below"), ("move x i", "refused Below"), ("write y a", "done"), ("value x", "none"),
            ("move x k", "done"), ("value i", "a"), ("move y i", "refused Below"), ("move k l", "done"),
            ("move l i", "refused Below")])

    def test_no_requests(self):
        for tree in (ROOT, TREE, STAR, LOCKED):
            text = tree_text(tree) + "\n"
            self.assertEqual(answers(text), [])
            self.assertIs(type(answers(text)), list)
            self.assertIsNone(first_wrong_line(text))


class Changes(Checking):
    def test_a_move_keeps_wants_and_settings(self):
        self.check(STAR, [
            ("want i a", "done"), ("want j b", "done"), ("write i a", "done"), ("move i j", "done"), ("value i", "a"),
            ("fewest", "2"), ("can j", "b"), ("edits", "1 2 2 1"), ("write j b", "done"), ("serves", "yes"),
            ("clear i", "done"), ("value i", "b"), ("move i r", "done"), ("value i", "none"), ("core", "i=a j=b")])

    def test_a_locked_folder_stays_locked_when_it_is_moved(self):
        self.check(LOCKED, [
            ("move e d", "done"), ("write e v", "refused Locked"), ("write d v", "done"), ("value e", "v"),
            ("move d e", "refused Below"), ("move b e", "refused Below"), ("move e r", "done"), ("value e", "none")])

    def test_a_move_makes_a_clash_and_mends_it(self):
        self.check(LOCKED, [
            ("want e v", "done"), ("want a w", "done"), ("fewest", "2"), ("move e a", "done"),
            ("fewest", "impossible"), ("edits", "refused Clashing"), ("move e d", "done"), ("fewest", "2"),
            ("want b w", "done"), ("fewest", "2"), ("want b v", "done"), ("core", "refused Clashing")])

    def test_nothing_is_changed_by_a_refused_request(self):
        state = ["value " + row[0] for row in LOCKED] + ["serves", "fewest", "many", "must", "edits", "core"] + [
            "can " + row[0] for row in LOCKED]
        first = ["want d a", "want e b", "want a c", "write a c", "write r x"]
        expected = answers(text_of(LOCKED, first + state))[len(first):]
        for refused, name in (("write b a", "Locked"), ("write c a", "Locked"), ("write e x", "Locked"),
                              ("clear r", "IsRoot"), ("move r d", "IsRoot"), ("move r r", "IsRoot"),
                              ("move a d", "Below"), ("move b b", "Below"), ("move c d", "Below")):
            found = answers(text_of(LOCKED, first + [refused, refused] + state))[len(first):]
            self.assertEqual(found, ["refused " + name] * 2 + expected)

    def test_no_question_changes_anything(self):
        first = ["want d a", "want e b", "want a c", "write a c", "write r x", "move e d"]
        state = ["serves", "fewest", "many", "must", "edits", "core", "value d", "can d", "value e", "can e"]
        expected = answers(text_of(LOCKED, first + state))[len(first):]
        self.assertEqual(answers(text_of(LOCKED, first + state * 3))[len(first):], expected * 3)

    def test_drawn_requests_beside_the_functions_of_the_other_files(self):
        chance = random.Random(131)
        seen = {}
        for k in range(150):
            tree = drawn_tree(chance, 1 + k % 8, lock=(0.0, 0.3, 0.5)[k % 3], near=(None, 1)[k % 5 == 0])
            for answer in self.check_replayed(tree, drawn_requests(chance, tree, 30)):
                seen[answer] = seen.get(answer, 0) + 1
        for answer in ("done", "yes", "no", "impossible", "-", "refused NoWants", "refused Clashing", "refused Locked",
                       "refused IsRoot", "refused Below"):
            self.assertLess(10, seen.get(answer, 0), answer)

    def test_texts_of_eighty_lines_about_sixteen_folders(self):
        chance = random.Random(132)
        for k in range(6):
            tree = drawn_tree(chance, 16, lock=0.2, near=(None, 2)[k % 2])
            names = [row[0] for row in tree]
            wanted = ["want " + name + " " + chance.choice("abcdef") for name in chance.sample(names, 9)]
            self.check_replayed(tree, wanted + ["core"] * 3 + list(QUESTIONS) + drawn_requests(chance, tree, 45))
        for tree in (chain(17), star(18)):
            self.check_replayed(tree, drawn_requests(chance, tree, 75))

    def test_the_same_text_gives_the_same_answers_in_a_new_list(self):
        text = text_of(STAR, ["want i a", "write r a", "serves", "move i j", "core"])
        first, second = answers(text), answers(text)
        self.assertEqual(first, second)
        self.assertIsNot(first, second)
        first.append("more")
        second.clear()
        self.assertEqual(answers(text), ["done", "done", "yes", "done", "-"])
        self.assertEqual(answers(text=text), answers(text))
        self.assertIsNot(answers("root r\n"), answers("root r\n"))


class WrongLines(Checking):
    def test_no_empty_line(self):
        for tree in (ROOT, TREE, STAR, LOCKED, chain(80)):
            self.check_bad("\n".join(row_lines(tree)), len(tree))
        self.check_bad("root r\nfewest", 1)
        self.check_bad("root r\nfolder i r\nwant i a\nfewest", 2)

    def test_no_tree(self):
        for text in ("", "\n", "\n\n", "\nroot r\n", "\nfewest", "\nroot r\n\nfewest", "\n\nfewest"):
            self.check_bad(text, 0)
        for text in ("fewest", "fewest\n", "folder i r\n\nfewest", " \n\nfewest", "root\n\nfewest"):
            self.check_bad(text, 0)

    def test_an_empty_line_too_many(self):
        self.check_bad("root r\n\n", 2)
        self.check_bad("root r\n\n\n", 2)
        self.check_bad("root r\n\n\nfewest", 2)
        self.check_bad("root r\n\nfewest\n", 3)
        self.check_bad("root r\n\nfewest\n\nmany", 3)
        self.check_bad("root r\n\nfewest\nmany\n\n", 4)
        self.check_bad("root r\n\nfolder i r\n\nfewest", 2)

    def test_wrong_lines_of_the_tree(self):
        for lines, number in (
                (["root r", "folder i q"], 1), (["root r", "root i"], 1), (["root r", "folder i r", "locked i r"], 2),
                (["root R"], 0), (["root r", "folder i i"], 1), (["root r", "folder i r", "folder  j r"], 2),
                (["root r r"], 0), (["root r", "folder i r "], 1), (["root r", "file i r"], 1),
                (["root r", "folder i j", "folder j r"], 1), (["root r", "folder abcdefghi r"], 1)):
            self.check_bad("\n".join(lines), number)
            self.check_bad("\n".join(lines + [""]), number)
            self.check_bad("\n".join(lines + ["", "fewest"]), number)
            # The first one decides.
            self.check_bad("\n".join(lines + ["", "no such"]), number)
            self.check_bad("\n".join(lines + ["folder", "", "no such", ""]), number)

    def test_unknown_requests(self):
        for request in ("no", "none", "Fewest", "FEWEST", "few", "fewests", "wants", "wish i a", "tidy", "spared", "-",
                        "costs i", "places i", "routes", "clash", "plan", "root r", "folder m r", "locked m r", "help",
                        "can_be i", "how_many", "i", "done", "#", "f\u0435west", "\u00a0", "value-of i"):
            self.check_bad_request(STAR, request)

    def test_words_too_many_or_missing(self):
        for request in ("want", "want i", "want i a b", "drop", "drop i j", "write", "write i", "write i a b", "clear",
                        "clear i j", "value", "value i j", "serves i", "fewest i", "many i", "can", "can i j",
                        "can i a", "must i", "must r", "edits i", "edits i j", "core i", "move", "move i", "move i j k",
                        "serves serves", "fewest -"):
            self.check_bad_request(STAR, request)

    def test_folders_that_are_not_of_the_tree(self):
        for folder in ("q", "rr", "ii", "R", "I", "none", "a", "abcdefghi", "-", "1") + WRONG_NAMES:
            for request in ("want {} a", "drop {}", "write {} a", "clear {}", "value {}", "can {}", "move {} r",
                            "move i {}", "move {} {}", "move r {}"):
                self.check_bad_request(STAR, request.replace("{}", folder))

    def test_values_that_are_no_names(self):
        for value in WRONG_NAMES:
            for request in ("want i ", "write i ", "want r ", "write r "):
                self.check_bad_request(STAR, request + value)

    def test_any_name_is_a_value(self):
        for value in ("r", "i", "q", "none", "abcdefgh", "zzzzzzzz", "fewest"):
            self.check(STAR, [("write i " + value, "done"), ("value i", value), ("want i " + value, "done"),
                              ("can i", value), ("must", "r"), ("serves", "yes")])

    def test_blanks(self):
        for request in REQUESTS:
            self.check_bad_request(STAR, " " + request)
            self.check_bad_request(STAR, request + " ")
            if " " in request:
                self.check_bad_request(STAR, request.replace(" ", "  "))
                self.check_bad_request(STAR, request.replace(" ", "  ", 1))
                self.check_bad_request(STAR, request.replace(" ", "\t"))
                self.check_bad_request(STAR, request.replace(" ", "\u00a0"))
                self.check_bad_request(STAR, request.replace(" ", ""))
        for request in (" ", "  ", "\t", "\r"):
            self.check_bad_request(STAR, request)
        # A line of blanks is not the empty line behind the tree either.
        self.check_bad("root r\n \nfewest", 1)
        self.check_bad("root r\n \n\nfewest", 1)

    def test_other_signs_end_no_line(self):
        for sign in ("\r", "\x0b", "\x0c", "\x1c", "\x85", "\u2028", "\t"):
            self.check_bad("root r\n\nfewest" + sign + "fewest", 2)
            self.check_bad("root r\n\nfewest" + sign, 2)
            self.check_bad("root r\n\nfewest\n" + sign + "fewest", 3)
            self.check_bad("root r" + sign + "\n\nfewest", 0)
            self.check_bad("root r\n" + sign + "\nfewest", 1)
            self.check_bad("root r" + sign + sign + "fewest", 0)
        self.check_bad("root r\r\n\r\nfewest", 0)

    def test_refused_requests_do_not_hide_a_wrong_line(self):
        self.check_bad(text_of(LOCKED, ["write b v", "clear r", "many", "no such"]), len(LOCKED) + 4)
        self.check_bad(text_of(LOCKED, ["write b v", "move r r", "move q r"]), len(LOCKED) + 3)
        # A folder of the tree, wherever it stands, and locked or not, may be named.
        self.check(LOCKED, [("write b v", "refused Locked"), ("clear b", "done"), ("move b r", "done")])

    def test_drawn_lines(self):
        chance = random.Random(133)
        words = ("want", "drop", "write", "move", "can", "fewest", "core", "aa", "ab", "q", "a", "", "A", "root")
        right = wrong = 0
        for _ in range(2000):
            tree = drawn_tree(chance, chance.randrange(1, 5), lock=0.3)
            lines = text_of(tree, drawn_requests(chance, tree, chance.randrange(6))).split("\n")
            for _ in range(chance.randrange(3)):
                at = chance.randrange(len(lines) + 1)
                line = " ".join(chance.choice(words) for _ in range(chance.randrange(4)))
                lines[at:at + chance.randrange(2)] = [line] * chance.randrange(2)
            text = "\n".join(lines)
            number = first_wrong_line(text)
            if number is None:
                right += 1
                end = lines.index("")
                self.assertEqual(len(answers(text)), len(lines) - end - 1)
            else:
                wrong += 1
                self.check_bad(text, number)
        self.assertLess(400, right)
        self.assertLess(400, wrong)

    def test_texts_of_eighty_lines_of_two_hundred_signs(self):
        for many in (80, 90):
            for sign in "a ~-!":
                self.check_bad("\n".join([sign * 200] * many), 0)
                self.check_bad(text_of(STAR, ["fewest"] * (many - 6) + [sign * 220]), many - 1)
            self.check_bad(text_of(STAR, ["fewest"] * (many - 6) + ["fewest " * 28 + "fewest"]), many - 1)
            self.check_bad("\n".join(row_lines(star(many))), many)


if __name__ == "__main__":
    unittest.main()
