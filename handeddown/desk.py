"""A desk: a TREE, wants and a PLAN that requests change and ask about."""

from handeddown.data import is_name
from handeddown.edits import fewest_edits, lean_edits
from handeddown.errors import BadLine, Below, Clashing, IsRoot, Locked, NoWants
from handeddown.every import can_be, how_many, must_write
from handeddown.places import moved
from handeddown.plans import serves, value_of
from handeddown.routes import fewest
from handeddown.texts import pairs_text, tree_in
from handeddown.wants import core

FIRST_VALUE = "none"
DONE = "done"
FOLDER = "folder"
VALUE = "value"

# Which words stand behind the first one of each request.
FORMS = {
    "want": (FOLDER, VALUE),
    "drop": (FOLDER,),
    "write": (FOLDER, VALUE),
    "clear": (FOLDER,),
    "value": (FOLDER,),
    "serves": (),
    "fewest": (),
    "many": (),
    "can": (FOLDER,),
    "must": (),
    "edits": (),
    "core": (),
    "move": (FOLDER, FOLDER),
}


class Desk:
    """What requests change: a TREE, without wants at first, and a PLAN of the root's setting at first."""

    def __init__(self, tree):
        self.tree = tree
        self.wants = ()
        self.plan = ((tree[0][0], FIRST_VALUE),)


def _want(desk, words):
    folder, value = words
    desk.wants = _with_pair(desk.wants, folder, value)
    return DONE


def _drop(desk, words):
    desk.wants = _without_pair(desk.wants, words[0])
    return DONE


def _write(desk, words):
    folder, value = words
    if folder in [row[0] for row in desk.tree if row[2]]:
        raise Locked(folder)
    desk.plan = _with_pair(desk.plan, folder, value)
    return DONE


def _clear(desk, words):
    if words[0] == desk.tree[0][0]:
        raise IsRoot()
    desk.plan = _without_pair(desk.plan, words[0])
    return DONE


def _value(desk, words):
    return value_of(desk.tree, desk.plan, words[0])


def _serves(desk, _):
    return "yes" if serves(desk.tree, desk.wants, desk.plan) else "no"


def _fewest(desk, _):
    few = fewest(desk.tree, desk.wants)
    return "impossible" if few is None else str(few)


def _many(desk, _):
    return str(how_many(desk.tree, desk.wants))


def _can(desk, words):
    # No sign for nothing is needed here, nor by _must: each folder has some value, and the root is written always.
    return " ".join(can_be(desk.tree, desk.wants, words[0]))


def _must(desk, _):
    return " ".join(must_write(desk.tree, desk.wants))


def _edits(desk, _):
    few = fewest_edits(desk.tree, desk.wants, desk.plan)
    lean = lean_edits(desk.tree, desk.wants, desk.plan)
    return " ".join([str(number) for number in few + lean])


def _core(desk, _):
    return pairs_text(core(desk.tree, desk.wants))


def _move(desk, words):
    folder, parent = words
    desk.tree = moved(desk.tree, folder, parent)
    return DONE


def _with_pair(pairs, folder, value):
    """WANTS or a PLAN, this pair in place of the folder's elder one."""
    others = _without_pair(pairs, folder)
    return tuple(sorted([*others, (folder, value)]))


def _without_pair(pairs, folder):
    """WANTS or a PLAN without the folder's pair."""
    return tuple([pair for pair in pairs if pair[0] != folder])


# What answers each request, from the desk and from the words behind the first one.
ACTIONS = {
    "want": _want,
    "drop": _drop,
    "write": _write,
    "clear": _clear,
    "value": _value,
    "serves": _serves,
    "fewest": _fewest,
    "many": _many,
    "can": _can,
    "must": _must,
    "edits": _edits,
    "core": _core,
    "move": _move,
}


def answers(text):
    """The list of the answers to the requests that stand behind the lines of a TREE and an empty line."""
    lines = text.split("\n")
    end = lines.index("") if "" in lines else len(lines)
    tree = tree_in("\n".join(lines[:end]))
    if end == len(lines):
        raise BadLine(end)
    folders = [row[0] for row in tree]
    requests = [line.split(" ") for line in lines[end + 1:]]
    for number, words in enumerate(requests, start=end + 1):
        if not _is_request(folders, words):
            raise BadLine(number)
    desk = Desk(tree)
    return [_answer(desk, words) for words in requests]


def _is_request(folders, words):
    """Whether these words are a request, where these are the folders."""
    form = FORMS.get(words[0])
    if form is None or len(words) != len(form) + 1:
        return False
    return all([
        word in folders if kind == FOLDER else is_name(word)
        for kind, word in zip(form, words[1:])
    ])


def _answer(desk, words):
    """The answer to a request of these words."""
    action = ACTIONS[words[0]]
    try:
        return action(desk, words[1:])
    except NoWants:
        return "refused NoWants"
    except Clashing:
        return "refused Clashing"
    except IsRoot:
        return "refused IsRoot"
    except Locked:
        return "refused Locked"
    except Below:
        return "refused Below"
