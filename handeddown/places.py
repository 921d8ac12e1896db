"""Where folders stand: a TREE with one of them moved, and where one is best put."""

from handeddown.data import branch_of
from handeddown.errors import Below, Clashing, IsRoot
from handeddown.routes import fewest


def moved(tree, folder, parent):
    """The TREE in which this folder, with all below it, stands below this parent, their rows behind all others."""
    _check_root(tree, folder)
    branch = branch_of(tree, folder)
    if parent in branch:
        raise Below(folder, parent)
    rows = [(name, parent if name == folder else above, is_locked) for name, above, is_locked in tree]
    others = [row for row in rows if row[0] not in branch]
    return tuple(others + [row for row in rows if row[0] in branch])


def places(tree, wants, folder):
    """The pair of the fewest settings wherever the folder stands, and of the parents below which it wants so few."""
    _check_root(tree, folder)
    branch = branch_of(tree, folder)
    parents = [row[0] for row in tree if row[0] not in branch]
    found = {parent: fewest(moved(tree, folder, parent), wants) for parent in parents}
    numbers = [few for few in list(found.values()) if few is not None]
    if not numbers:
        raise Clashing()
    least = min(numbers)
    return least, sorted([parent for parent in parents if found[parent] == least])


def _check_root(tree, folder):
    """Raises the error of a root that should stand elsewhere."""
    if folder == tree[0][0]:
        raise IsRoot()
