"""[12]: tree_text, tree_in, pairs_text, pairs_in."""

import random
import re
import unittest

from handeddown.data import is_plan, is_tree
from handeddown.errors import BadLine, BadText
from handeddown.texts import pairs_in, pairs_text, tree_in, tree_text
from tests.lines import WRONG_NAMES, first_wrong_row, row_lines
from tests.samples import (
    LOCKED, NO_NAMES, PLAN, ROOT, STAR, THREE, TREE, WANTS, all_wants, as_lists, chain, drawn_plan, drawn_tree,
    drawn_wants, letters_name, mixed, plans, star, trees)

# Signs at which splitlines() or split() would part a text, other than the line feed and the blank.
OTHER_ENDS = ("\r", "\x0b", "\x0c", "\x1c", "\x1d", "\x1e", "\x85", "\u2028", "\u2029", "\t", "\xa0", "\u3000", "\x1f")

PAIRS = re.compile(r"([a-z]{1,8})=([a-z]{1,8})")


class Checking(unittest.TestCase):
    def check_tree(self, tree):
        """There and back."""
        text = tree_text(tree)
        self.assertIs(type(text), str)
        self.assertEqual(text, "\n".join(row_lines(tree)))
        again = tree_in(text)
        self.assertIs(is_tree(again), True)
        self.assertEqual(again, tree)
        self.assertEqual(tree_text(again), text)

    def check_bad_line(self, text, number):
        with self.assertRaises(BadLine) as caught:
            tree_in(text)
        self.assertIs(type(caught.exception), BadLine)
        self.assertIsInstance(caught.exception, ValueError)
        self.assertIs(type(caught.exception.number), int)
        self.assertEqual(caught.exception.number, number, repr(text))

    def check_bad_lines(self, lines, number):
        self.check_bad_line("\n".join(lines), number)
        # Whatever stands behind the line.
        self.check_bad_line("\n".join(lines[:number + 1]), number)
        self.check_bad_line("\n".join(lines[:number + 1] + ["", "root", "folder q q"]), number)

    def check_pairs(self, pairs):
        """There and back."""
        text = pairs_text(pairs)
        self.assertIs(type(text), str)
        again = pairs_in(text)
        self.assertIs(type(again), tuple)
        for pair in again:
            self.assertIs(type(pair), tuple)
        self.assertEqual(again, pairs)
        self.assertEqual(pairs_text(again), text)

    def check_bad_text(self, text):
        with self.assertRaises(BadText) as caught:
            pairs_in(text)
        self.assertIs(type(caught.exception), BadText)
        self.assertIsInstance(caught.exception, ValueError)


class Examples(Checking):
    def test_those_of_the_document(self):
        self.assertEqual(tree_text(STAR[:2]), "root r\nfolder i r")
        self.assertEqual(pairs_text(THREE), "i=a j=b k=c")
        self.assertEqual(pairs_in("i=a k=c"), (("i", "a"), ("k", "c")))


class TreesThereAndBack(Checking):
    def test_small_trees(self):
        for many in (1, 2, 3, 4):
            for tree in trees(many):
                self.check_tree(tree)

    def test_larger_trees(self):
        chance = random.Random(121)
        for tree in (TREE, STAR, LOCKED, chain(16), star(16), chain(80), star(80, locked=range(1, 80, 3)), star(300)):
            self.check_tree(tree)
        for k in range(30):
            self.check_tree(drawn_tree(chance, 4 + k, lock=0.4, near=(None, 2)[k % 2]))

    def test_the_lines(self):
        self.assertEqual(tree_text(ROOT), "root r")
        self.assertEqual(
            tree_text(LOCKED), "root r\nfolder a r\nlocked b a\nlocked c b\nfolder d c\nlocked e r")
        self.assertEqual(tree_in("root r"), ROOT)
        self.assertEqual(
            tree_in("root b\nlocked a b\nfolder c a"), (("b", None, False), ("a", "b", True), ("c", "a", False)))

    def test_lists_for_tuples(self):
        for tree in (ROOT, TREE, STAR, LOCKED):
            for form in (list, as_lists, mixed):
                self.assertEqual(tree_text(form(tree)), tree_text(tree))

    def test_names_that_are_first_words_elsewhere(self):
        self.check_tree((("root", None, False), ("folder", "root", False), ("locked", "folder", True)))
        self.check_tree((("locked", None, False), ("root", "locked", True), ("folder", "root", False)))

    def test_names_of_one_letter_and_of_eight(self):
        self.check_tree((
            ("abcdefgh", None, False), ("a", "abcdefgh", False), ("zzzzzzzz", "a", True), ("z", "a", True)))


class WrongTreeTexts(Checking):
    def test_the_empty_string_and_empty_lines(self):
        for text in ("", "\n", "\n\n", "\nroot r", "\n\nroot r\nfolder i r"):
            self.check_bad_line(text, 0)
        self.check_bad_line("root r\n", 1)
        self.check_bad_line("root r\n\n", 1)
        self.check_bad_line("root r\n\nfolder i r", 1)
        self.check_bad_line("root r\nfolder i r\n", 2)
        self.check_bad_line("root r\nfolder i r\n\nfolder j r\n", 2)
        self.check_bad_line(tree_text(TREE) + "\n", len(TREE))

    def test_no_root(self):
        self.check_bad_lines(["folder r"], 0)
        self.check_bad_lines(["folder i r", "folder j r"], 0)
        self.check_bad_lines(["locked i r"], 0)
        self.check_bad_lines(["folder i r", "root r"], 0)
        self.check_bad_lines(["folder i i"], 0)
        self.check_bad_lines(["folder r None"], 0)
        self.check_bad_lines(["folder r none"], 0)

    def test_a_second_root_line(self):
        self.check_bad_lines(["root r", "root r"], 1)
        self.check_bad_lines(["root r", "root i"], 1)
        self.check_bad_lines(["root r", "folder i r", "root j"], 2)

    def test_a_root_line_with_other_words(self):
        for line in ("root", "root ", "root r r", "root i r", "root r none", "root r r r", "root root root",
                     "root r None", "root r locked"):
            self.check_bad_lines([line], 0)
            self.check_bad_lines(["root r", line], 1)
        self.check_bad_lines(["root r", "root i r"], 1)

    def test_a_folder_ahead_of_its_parent(self):
        self.check_bad_lines(["root r", "folder i x", "folder x r"], 1)
        self.check_bad_lines(["root r", "folder x r", "locked k y", "folder y r"], 2)

    def test_a_parent_of_no_row(self):
        self.check_bad_lines(["root r", "folder i q"], 1)
        self.check_bad_lines(["root r", "locked i q"], 1)
        self.check_bad_lines(["root r", "folder i none"], 1)
        self.check_bad_lines(["root r", "folder i root"], 1)
        self.check_bad_lines(["root r", "folder i rr"], 1)

    def test_its_own_parent(self):
        self.check_bad_lines(["root r", "folder i i"], 1)
        self.check_bad_lines(["root r", "folder i r", "locked j j"], 2)

    def test_a_name_twice(self):
        self.check_bad_lines(["root r", "folder r r"], 1)
        self.check_bad_lines(["root r", "folder i r", "folder i r"], 2)
        self.check_bad_lines(["root r", "folder i r", "locked i r"], 2)
        self.check_bad_lines(["root r", "folder i r", "folder j i", "folder i j"], 3)
        self.check_bad_lines(["root r", "folder i r", "folder r i"], 2)

    def test_wrong_names(self):
        for name in WRONG_NAMES:
            self.check_bad_lines(["root " + name], 0)
            self.check_bad_lines(["root " + name, "folder i " + name], 0)
            for word in ("folder ", "locked "):
                self.check_bad_lines(["root r", word + name + " r"], 1)
                self.check_bad_lines(["root r", word + "i " + name], 1)
                self.check_bad_lines(["root r", "folder x r", word + name + " " + name, "folder y r"], 2)

    def test_names_of_nine_letters(self):
        self.check_bad_lines(["root abcdefghi"], 0)
        self.check_bad_lines(["root abcdefgh", "folder abcdefghi abcdefgh"], 1)
        self.assertEqual(tree_in("root abcdefgh\nfolder bcdefghi abcdefgh")[1], ("bcdefghi", "abcdefgh", False))

    def test_blanks(self):
        for line in ("  ", " ", " root r", "root r ", "root  r", "root r  ", "  root r", "rootr", "root\u00a0r"):
            self.check_bad_lines([line], 0)
            self.check_bad_lines([line, "folder i r"], 0)
        for line in (" ", "   ", " folder i r", "folder i r ", "folder  i r", "folder i  r", "folder i r  ",
                     "folder ir", "folderi r", "folderir", "locked  i r", " locked i r", "locked i r ", "locked i  r"):
            self.check_bad_lines(["root r", line], 1)
            self.check_bad_lines(["root r", "folder x r", line, "folder y r"], 2)

    def test_words_too_many_or_too_few(self):
        for line in ("folder", "locked", "folder i", "locked i", "folder r", "folder i r r", "folder i r x",
                     "locked i r r", "folder i r locked", "folder locked i r", "locked folder i r", "i r", "i"):
            self.check_bad_lines(["root r", line], 1)
            self.check_bad_lines(["root r", "folder x r", line], 2)

    def test_unknown_first_words(self):
        for word in ("Folder", "FOLDER", "folders", "file", "free", "lock", "Locked", "x", "none", "None", "#", "want",
                     "root", "folder:", "True", "False", "fold\u0435r"):
            self.check_bad_lines(["root r", word + " i r"], 1)
        for word in ("Root", "ROOT", "roots", "r", "tree", "folder", "locked", "ro\u043et"):
            self.check_bad_lines([word + " r"], 0)

    def test_other_signs_end_no_line_and_are_no_blanks(self):
        for sign in OTHER_ENDS:
            self.check_bad_lines(["root r" + sign + "folder i r"], 0)
            self.check_bad_lines(["root" + sign + "r"], 0)
            self.check_bad_lines(["root r" + sign], 0)
            self.check_bad_lines([sign + "root r"], 0)
            self.check_bad_lines(["root r" + sign, "folder i r"], 0)
            self.check_bad_lines(["root r", "folder i r" + sign], 1)
            self.check_bad_lines(["root r", "folder i r" + sign + "folder j r"], 1)
            self.check_bad_lines(["root r", "folder i" + sign + "r"], 1)
            self.check_bad_lines(["root r", "folder" + sign + "i r"], 1)
            self.check_bad_lines(["root r", "folder i r", sign], 2)
            self.check_bad_lines(["root r", "folder i r", sign + "folder j r"], 2)

    def test_the_first_of_several_faults(self):
        faults = ["", "folder", "folder i q", "folder aa aa", "root x", "locked  x a", "folder x a ", "folder X a"]
        right = row_lines(star(9, locked=(2, 5)))
        for first in range(1, len(right)):
            for second in range(first, len(right)):
                for fault in faults:
                    lines = list(right)
                    lines[first] = fault
                    lines[second] = faults[(first + second) % len(faults)]
                    self.check_bad_lines(lines, first)

    def test_drawn_texts(self):
        chance = random.Random(122)
        words = ("root", "folder", "locked", "a", "b", "c", "d", "abcdefghi", "", "A")
        right = wrong = 0
        for _ in range(3000):
            lines = ["root a"]
            for name in "bcde"[:chance.randrange(5)]:
                lines.append(chance.choice(("folder ", "locked ")) + name + " " + chance.choice("aabbcd"))
            if chance.random() < 0.4:
                many = chance.randrange(1, 5)
                lines[chance.randrange(len(lines))] = " ".join(chance.choice(words) for _ in range(many))
            if chance.random() < 0.2:
                chance.shuffle(lines)
            number = first_wrong_row(lines)
            if number is None:
                right += 1
                self.check_tree(tree_in("\n".join(lines)))
            else:
                wrong += 1
                self.check_bad_line("\n".join(lines), number)
        self.assertLess(500, right)
        self.assertLess(500, wrong)

    def test_drawn_signs(self):
        chance = random.Random(123)
        for _ in range(3000):
            signs = list(tree_text(STAR[:3]))
            for _ in range(chance.randrange(1, 3)):
                at = chance.randrange(len(signs) + 1)
                signs[at:at + chance.randrange(2)] = chance.choice(("", " ", "\n", "r", "i", "-", "\r", "R", "\u00e9"))
            text = "".join(signs)
            number = first_wrong_row(text.split("\n"))
            if number is None:
                self.check_tree(tree_in(text))
            else:
                self.check_bad_line(text, number)

    def test_texts_of_eighty_lines_of_two_hundred_signs(self):
        for many in (80, 90):
            self.check_bad_line("\n".join(["a" * 200] * many), 0)
            self.check_bad_line("\n".join([" " * 200] * many), 0)
            lines = row_lines(star(many))
            for line in ("~" * 200, "folder " + "a" * 193, " ".join(["folder"] * 28), "!" * 230):
                self.check_bad_lines(lines[:-1] + [line], many - 1)


class PairsThereAndBack(Checking):
    def test_no_pairs(self):
        self.check_pairs(())
        self.assertEqual(pairs_text(()), "-")
        self.assertEqual(pairs_text([]), "-")
        self.assertEqual(pairs_in("-"), ())
        self.assertIs(type(pairs_in("-")), tuple)

    def test_wants_and_plans(self):
        for pairs in (WANTS, THREE, PLAN, (("r", "a"),), (("abcdefgh", "zzzzzzzz"), ("b", "a"))):
            self.check_pairs(pairs)
        for tree in trees(3):
            for wants in all_wants(tree, ("a", "none")):
                self.check_pairs(wants)
            for plan in plans(tree, ("a", "none")):
                self.check_pairs(plan)
                self.assertIs(is_plan(tree, pairs_in(pairs_text(plan))), True)

    def test_drawn_wants_and_plans(self):
        chance = random.Random(124)
        for k in range(30):
            tree = drawn_tree(chance, 3 + k, lock=0.2)
            self.check_pairs(drawn_wants(chance, tree, "abcdef", inner=0.3))
            self.check_pairs(drawn_plan(chance, tree))
        self.check_pairs(tuple((letters_name(k), letters_name(k + 1)) for k in range(300)))

    def test_the_words(self):
        self.assertEqual(pairs_text(WANTS), "i=a j=b k=b l=c")
        self.assertEqual(pairs_text((("r", "none"),)), "r=none")
        self.assertEqual(pairs_in("r=none"), (("r", "none"),))
        self.assertEqual(pairs_in("a=b b=a"), (("a", "b"), ("b", "a")))
        self.assertEqual(pairs_in("a=a aa=a ab=a b=a"), (("a", "a"), ("aa", "a"), ("ab", "a"), ("b", "a")))

    def test_lists_for_tuples(self):
        for pairs in (WANTS, THREE, PLAN, ()):
            for form in (list, as_lists, mixed):
                self.assertEqual(pairs_text(form(pairs)), pairs_text(pairs))

    def test_a_full_line(self):
        pairs = tuple(("aaaaaaa" + letter, "zzzzzzzz") for letter in "abcdefghijk")
        self.assertEqual(len(pairs_text(pairs)), 197)
        self.check_pairs(pairs)


class WrongPairsTexts(Checking):
    def test_the_empty_string_and_no_pairs_twice(self):
        for text in ("", " ", "  ", "- -", "--", "- ", " -", "-=-", "- i=a", "i=a -", "i=-", "-=a", "\n", "-\n", "\n-",
                     "()", "none", "None", "\u2013"):
            self.check_bad_text(text)

    def test_pairs_that_do_not_ascend(self):
        for text in ("j=a i=b", "i=a k=b j=c", "j=a j=a i=a", "b=a aa=a", "aa=a a=a", "i=b i=a"):
            self.check_bad_text(text)

    def test_a_folder_twice(self):
        for text in ("i=a i=a", "i=a i=b", "i=a j=b j=c", "i=a i=b j=a", "a=a b=b c=c c=d"):
            self.check_bad_text(text)

    def test_blanks(self):
        for text in ("i=a  j=b", " i=a", "i=a ", "i=a j=b ", "i =a", "i= a", "i = a", "i=a   j=b", " i=a j=b",
                     "i=aj=b", "i=a,j=b", "i=a, j=b"):
            self.check_bad_text(text)

    def test_equals_signs(self):
        for text in ("i", "i a", "ia", "i==a", "i=a=b", "=", "==", "=a", "i=", "i=a j", "i j=b", "i=a =", "= i=a",
                     "i=a j=", "i=a =b", "i=a j==b", "i=a j=b=c", "i:a", "i-a", "=i=a", "i=a="):
            self.check_bad_text(text)

    def test_wrong_names(self):
        for name in [word for word in NO_NAMES if isinstance(word, str)]:
            for text in (name + "=a", "i=" + name, "a=a " + name + "=a", "a=a i=" + name, "i=" + name + " j=a",
                         name + "=" + name, name + "=a zz=b"):
                self.check_bad_text(text)

    def test_names_of_nine_letters(self):
        self.check_bad_text("abcdefghi=a")
        self.check_bad_text("a=abcdefghi")
        self.assertEqual(pairs_in("abcdefgh=bcdefghi"), (("abcdefgh", "bcdefghi"),))

    def test_line_feeds_and_other_signs(self):
        for sign in OTHER_ENDS + ("\n", "\r\n"):
            for text in ("i=a" + sign, sign + "i=a", "i=a" + sign + "j=b", "i" + sign + "=a", "i=" + sign + "a", sign,
                         "-" + sign, sign + "-", "i=a " + sign + " j=b", "i=a " + sign + "j=b"):
                self.check_bad_text(text)

    def test_drawn_signs(self):
        chance = random.Random(125)
        right = 0
        for _ in range(4000):
            signs = list("i=a j=b k=c")
            for _ in range(chance.randrange(1, 4)):
                at = chance.randrange(len(signs) + 1)
                signs[at:at + chance.randrange(2)] = chance.choice(("", "", " ", "=", "a", "j", "k", "-", "\n", "I"))
            text = "".join(signs)
            found = [PAIRS.fullmatch(word) for word in text.split(" ")]
            names = [match and match.group(1) for match in found]
            if None in found or names != sorted(set(names)):
                self.check_bad_text(text)
            else:
                right += 1
                self.assertEqual(pairs_in(text), tuple(match.groups() for match in found))
        self.assertLess(400, right)

    def test_long_texts(self):
        for many in (200, 230, 80 * 201):
            for sign in "a= -~":
                self.check_bad_text(sign * many)


if __name__ == "__main__":
    unittest.main()
