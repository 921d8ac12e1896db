"""The texts of TREEs, and those of WANTS and PLANs."""

from handeddown.data import are_pairs, can_follow
from handeddown.errors import BadLine, BadText

NO_PAIRS = "-"


def tree_text(tree):
    """The text of a TREE: a line for each row."""
    return "\n".join([_line_of(row) for row in tree])


def tree_in(text):
    """The TREE with this text; raises BadLine for the first line that cannot stand there."""
    ahead, rows = {}, []
    # splitlines() would let other signs end a line, too, and hide a line feed behind the last one.
    for number, line in enumerate(text.split("\n")):
        row = _row_in(line)
        if not can_follow(ahead, row):
            raise BadLine(number)
        ahead[row[0]] = True
        rows.append(row)
    return tuple(rows)


def pairs_text(pairs):
    """The text of WANTS or of a PLAN."""
    if len(pairs) == 0:
        return NO_PAIRS
    return " ".join([f"{folder}={value}" for folder, value in pairs])


def pairs_in(text):
    """The pairs with this text, ascending; raises BadText if there are none."""
    if text == NO_PAIRS:
        return ()
    # A blank or a "=" too many makes a word that is no pair, or a NAME that is none.
    pairs = tuple([tuple(word.split("=")) for word in text.split(" ")])
    if not are_pairs(pairs):
        raise BadText()
    return pairs


def _line_of(row):
    """The line of a row."""
    name, parent, is_locked = row
    if parent is None:
        return f"root {name}"
    word = "locked" if is_locked else "folder"
    return f"{word} {name} {parent}"


def _row_in(line):
    """The row of a line, of words that need not be NAMEs; None if it has no row's words."""
    # split() alone would take several blanks for one, and other signs for blanks.
    words = line.split(" ")
    if len(words) == 2 and words[0] == "root":
        return words[1], None, False
    if len(words) == 3 and words[0] in ("folder", "locked"):
        return words[1], words[2], words[0] == "locked"
    return None
