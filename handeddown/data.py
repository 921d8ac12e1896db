"""What a TREE is, what WANTS are, and what a PLAN is."""

LONGEST_NAME = 8


def is_tree(thing):
    """Whether thing is a TREE: a root, and then rows that stand behind their parents' rows."""
    if not isinstance(thing, tuple) or thing == ():
        return False
    ahead = {}
    for row in thing:
        if not can_follow(ahead, row):
            return False
        ahead[row[0]] = True
    return True


def are_wants(tree, thing):
    """Whether thing is WANTS of this TREE."""
    return are_pairs(thing) and _are_all_of([row[0] for row in tree], thing)


def is_plan(tree, thing):
    """Whether thing is a PLAN of this TREE."""
    free = [row[0] for row in tree if not row[2]]
    return are_pairs(thing) and _are_all_of(free, thing) and tree[0][0] in [pair[0] for pair in thing]


def is_name(thing):
    """Whether thing is a NAME, and so also whether it is a VALUE."""
    if not isinstance(thing, str) or not 1 <= len(thing) <= LONGEST_NAME:
        return False
    # islower() and isalpha() would let letters of other alphabets through.
    return all(["a" <= letter <= "z" for letter in thing])


def can_follow(ahead, row):
    """Whether row, any value, can stand in a TREE behind the rows with the names ahead, a dict."""
    if not isinstance(row, tuple) or len(row) != 3:
        return False
    name, parent, is_locked = row
    if not is_name(name) or name in ahead:
        return False
    if not ahead:
        return parent is None and is_locked is False
    # 0 and 1 equal False and True, and a list is no key: hence "is" and is_name.
    return (is_locked is True or is_locked is False) and is_name(parent) and parent in ahead


def are_pairs(thing):
    """Whether thing is an ascending tuple of pairs of NAMEs of which the first ones are different."""
    if not isinstance(thing, tuple):
        return False
    last = ""
    for pair in thing:
        if not isinstance(pair, tuple) or len(pair) != 2 or not all([is_name(part) for part in pair]):
            return False
        # Different first NAMEs decide how pairs compare, so these ascend, from one above "".
        if pair[0] <= last:
            return False
        last = pair[0]
    return True


def branch_of(tree, folder):
    """A new dict of the folder and of all that stand below it, in the order of their rows."""
    branch = {folder: True}
    for name, parent, _ in tree:
        if parent in branch:
            branch[name] = True
    return branch


def _are_all_of(folders, pairs):
    """Whether the pairs are of these folders alone."""
    return all([pair[0] in folders for pair in pairs])
