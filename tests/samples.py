"""Trees and plans that several tests take, and what the document says of them, in plain steps."""

from itertools import product

TREE = (("r", None, False), ("x", "r", False), ("y", "r", False), ("i", "x", False), ("j", "x", False),
        ("k", "y", False), ("l", "y", False))
WANTS = (("i", "a"), ("j", "b"), ("k", "b"), ("l", "c"))
PLAN = (("i", "a"), ("l", "c"), ("r", "b"), ("x", "b"))
STAR = (("r", None, False), ("i", "r", False), ("j", "r", False), ("k", "r", False))
THREE = (("i", "a"), ("j", "b"), ("k", "c"))
ROOT = (("r", None, False),)
# a below r, and below it a locked b, a locked c, and d; e is locked and stands right below r.
LOCKED = (("r", None, False), ("a", "r", False), ("b", "a", True), ("c", "b", True), ("d", "c", False),
          ("e", "r", True))

# Row order, alphabetical order and order by length are three different ones.
NAMES = ("m", "b", "aa", "z", "ab", "a")

# The letters behind each other end just ahead of "`" and "{"; the rest are letters, or none, elsewhere.
NO_NAMES = (
    "", "abcdefghi", "abcdefghijklmnopqrstuvwxyz", "A", "aB", "Ab", "ABC", "a1", "1", "0a", "a b", " ", " a", "a ",
    "a\n", "\na", "a\t", "a-b", "a_b", "_", "a.b", "a=b", "-", "`", "{", "a`", "{a", "@", "[", "\u00e4", "\u00df",
    "\u00aa", "\uff41", "\u0430", "a\u0301", "\x00", "a\x00", "\ud800",
    None, True, False, 0, 1, -5, 10 ** 30, (), [], ("a",), ["a"], (("a",),), [["a", 1]],
)


def letters_name(number):
    """A NAME for each number below 26 * 26."""
    return chr(ord("a") + number // 26) + chr(ord("a") + number % 26)


def chain(many, locked=()):
    """A tree of so many folders, each below the one ahead; those of the numbers in locked are locked."""
    return tuple(
        (letters_name(k), letters_name(k - 1) if k else None, k in locked) for k in range(many))


def star(many, locked=()):
    """A root with all other folders right below it."""
    return tuple((letters_name(k), letters_name(0) if k else None, k in locked) for k in range(many))


def trees(many):
    """All trees of so many rows, with the first of NAMES, in all shapes and with all locks."""
    names = NAMES[:many]
    for parents in product(*[names[:k] for k in range(1, many)]):
        for locks in product((False, True), repeat=many - 1):
            yield ((names[0], None, False),) + tuple(zip(names[1:], parents, locks))


def plans(tree, values):
    """All plans of the tree with these values."""
    free = [name for name, _, is_locked in tree if not is_locked]
    root = tree[0][0]
    choices = [values if name == root else (None,) + tuple(values) for name in free]
    for chosen in product(*choices):
        yield tuple(sorted((name, value) for name, value in zip(free, chosen) if value is not None))


def all_wants(tree, values):
    """All wants in the tree with these values."""
    names = [row[0] for row in tree]
    for chosen in product((None,) + tuple(values), repeat=len(names)):
        yield tuple(sorted((name, value) for name, value in zip(names, chosen) if value is not None))


def value_above(tree, plan, folder):
    """The value at the nearest folder with a setting: step by step upwards."""
    parents = {name: parent for name, parent, _ in tree}
    settings = dict(plan)
    while folder not in settings:
        folder = parents[folder]
    return settings[folder]


def values_above(tree, plan):
    """The sorted pairs of all folders and their values."""
    return sorted((row[0], value_above(tree, plan, row[0])) for row in tree)


def can_spare(tree, plan):
    """The settings but the root's that could be taken away without another value anywhere."""
    values = values_above(tree, plan)
    spare = []
    for setting in plan:
        rest = [other for other in plan if other != setting]
        if setting[0] != tree[0][0] and values_above(tree, rest) == values:
            spare.append(setting)
    return spare


def as_lists(value):
    """The same with lists for tuples at each depth."""
    if isinstance(value, (list, tuple)):
        return [as_lists(item) for item in value]
    return value


def mixed(value, depth=0):
    """The same with lists for tuples at each second depth."""
    if isinstance(value, (list, tuple)):
        items = [mixed(item, depth + 1) for item in value]
        return tuple(items) if depth % 2 == 0 else items
    return value


def drawn_tree(chance, many, lock=0.0, near=None):
    """A tree of so many folders; lock tells how often one is locked, near how far back its parent's row stands."""
    rows = [("aa", None, False)]
    for k in range(1, many):
        first = 0 if near is None else max(0, k - near)
        rows.append((letters_name(k), rows[chance.randrange(first, k)][0], chance.random() < lock))
    names = [row[0] for row in rows]
    chance.shuffle(names)
    called = dict(zip([row[0] for row in rows], names))
    return tuple((called[name], called.get(parent), is_locked) for name, parent, is_locked in rows)


def leaves(tree):
    """The sorted names of the folders below which none stands."""
    parents = {row[1] for row in tree}
    return sorted(row[0] for row in tree if row[0] not in parents)


def drawn_wants(chance, tree, values, inner=0.0):
    """Wants of all leaves and of some inner folders, of which no two tied ones are unlike."""
    heads = {}
    wished = {}
    ends = leaves(tree)
    wants = []
    for name, parent, is_locked in tree:
        heads[name] = heads[parent] if is_locked else name
        value = wished.setdefault(heads[name], chance.choice(values))
        if name in ends or chance.random() < inner:
            wants.append((name, value))
    return tuple(sorted(wants))


def drawn_plan(chance, tree):
    """A plan with a setting at about half of the folders that are not locked."""
    free = [name for name, _, is_locked in tree if not is_locked]
    return tuple(sorted(
        (name, chance.choice("abc")) for name in free if name == tree[0][0] or chance.random() < 0.5))
