"""What a PLAN gives: the values that folders have by it."""


def value_of(tree, plan, folder):
    """The value that this folder has by the PLAN."""
    return given_by(tree, plan)[folder]


def values_of(tree, plan):
    """The ascending list of the pairs (folder, value) of all folders."""
    return sorted(given_by(tree, plan).items())


def serves(tree, wants, plan):
    """Whether each folder has the value that is wanted at it."""
    given = given_by(tree, plan)
    return all([given[folder] == value for folder, value in wants])


def is_lean(tree, plan):
    """Whether each setting but the root's is needed for the values that folders have."""
    # What is tidied away are settings of the PLAN and nothing comes in, so the counts tell.
    return len(tidied(tree, plan)) == len(plan)


def tidied(tree, plan):
    """The lean PLAN by which all folders have the same values."""
    return lean_plan(tree, given_by(tree, plan))


def given_by(tree, plan):
    """A new dict of each folder's value by the PLAN."""
    written = {folder: value for folder, value in plan}
    given = {}
    # Each parent's row stands ahead, so the value that is handed down is there already.
    for name, parent, _ in tree:
        given[name] = written[name] if name in written else given[parent]
    return given


def lean_plan(tree, given):
    """The lean PLAN by which the folders have the values of this dict, tied ones one value."""
    return tuple(sorted([
        (name, given[name]) for name, parent, _ in tree
        if parent is None or given[name] != given[parent]
    ]))
