"""What the document says of the lines of trees and of requests, by patterns, for the tests of texts and of the desk."""

import re

from tests.samples import NO_NAMES

# What no NAME is, in one line.
WRONG_NAMES = tuple(word for word in NO_NAMES if isinstance(word, str) and "\n" not in word)

ROOT_LINE = re.compile(r"root ([a-z]{1,8})")
ROW_LINE = re.compile(r"(folder|locked) ([a-z]{1,8}) ([a-z]{1,8})")
REQUEST_LINES = (
    re.compile(r"(want|write) (?P<folder>[a-z]{1,8}) [a-z]{1,8}"),
    re.compile(r"(drop|clear|value|can) (?P<folder>[a-z]{1,8})"),
    re.compile(r"(serves|fewest|many|must|edits|core)"),
    re.compile(r"move (?P<folder>[a-z]{1,8}) (?P<parent>[a-z]{1,8})"),
)


def row_lines(tree):
    """The lines of a tree, one for each row."""
    lines = ["root " + tree[0][0]]
    for name, parent, is_locked in tree[1:]:
        lines.append(("locked " if is_locked else "folder ") + name + " " + parent)
    return lines


def text_of(tree, requests):
    """The text of a desk."""
    return "\n".join(row_lines(tree) + [""] + list(requests))


def names_in(lines):
    """The names of the folders of lines of which none is wrong."""
    return [line.split(" ")[1] for line in lines]


def first_wrong_row(lines):
    """The number of the first line that cannot stand there in a tree, or None."""
    names = []
    for number, line in enumerate(lines):
        found = (ROW_LINE if names else ROOT_LINE).fullmatch(line)
        if found is None:
            return number
        name = found.group(2) if names else found.group(1)
        if name in names or names and found.group(3) not in names:
            return number
        names.append(name)
    return None


def is_request(line, names):
    """Whether the line is a request to a tree of folders with these names."""
    for pattern in REQUEST_LINES:
        found = pattern.fullmatch(line)
        if found is not None:
            return all(name in names for name in found.groupdict().values())
    return False


def first_wrong_line(text):
    """The number of the first line of the text that a desk does not take, or None."""
    lines = text.split("\n")
    for end, line in enumerate(lines):
        wrong = first_wrong_row(lines[:end + 1])
        if wrong is not None:
            # A line that is wrong in a tree may be the empty one behind it.
            if line != "" or end == 0:
                return end
            for number in range(end + 1, len(lines)):
                if not is_request(lines[number], names_in(lines[:end])):
                    return number
            return None
    return len(lines)


def drawn_requests(chance, tree, many):
    """So many requests of all kinds, those that change something more often."""
    names = [row[0] for row in tree]
    requests = []
    for _ in range(many):
        folder, other = chance.choice(names), chance.choice(names)
        value = chance.choice("abc")
        requests.append(chance.choice((
            "want " + folder + " " + value, "want " + folder + " " + value, "drop " + folder,
            "write " + folder + " " + value, "write " + folder + " " + value, "clear " + folder, "value " + folder,
            "serves", "fewest", "many", "can " + folder, "must", "edits", "core",
            "move " + folder + " " + other, "move " + folder + " " + other)))
    return requests
