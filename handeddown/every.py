"""All PLANs that serve with as few settings as can be, and how one of them becomes another one."""

from handeddown.data import branch_of, is_plan
from handeddown.errors import Clashing, Locked, NoWants
from handeddown.plans import given_by, lean_plan, serves
from handeddown.routes import clash, fewest
from handeddown.ties import asked_of, head_parents


def is_fewest(tree, wants, thing):
    """Whether thing is a PLAN that serves with as few settings as can be."""
    _check_wants(tree, wants)
    return is_plan(tree, thing) and serves(tree, wants, thing) and len(thing) == fewest(tree, wants)


def how_many(tree, wants):
    """How many PLANs serve with as few settings as can be."""
    _check_wants(tree, wants)
    parents, asked, values = head_parents(tree), asked_of(tree, wants), _wished(wants)
    # Such a PLAN is lean and only wanted values are written by it, so it is told by which of them each head has.
    ways = {name: _ways_alone(asked, name, values) for name in parents}
    for name, parent in reversed(list(parents.items())):
        if parent is not None:
            ways[parent] = _with_branch(ways[parent], ways[name])
    return _fewest_ways(list(ways[tree[0][0]].values()))[1]


def can_be(tree, wants, folder):
    """The ascending list of the values that the folder has by some of the fewest PLANs."""
    _check_wants(tree, wants)
    few = fewest(tree, wants)
    return [value for value in _wished(wants) if with_value(tree, wants, folder, value) == few]


def with_value(tree, wants, folder, value):
    """How few settings a PLAN that serves has by which the folder has this value; None if there is none."""
    _check_wants(tree, wants)
    wished = {name: wish for name, wish in wants}
    if wished.get(folder, value) != value:
        return None
    return fewest(tree, sorted({**wished, folder: value}.items()))


def must_write(tree, wants):
    """The ascending list of the folders that are written by all of the fewest PLANs."""
    _check_wants(tree, wants)
    few = fewest(tree, wants)
    # A folder that some fewest PLAN leaves unwritten might as well be locked.
    return sorted([
        name for name, parent in head_parents(tree).items()
        if parent is None or fewest(_with_locked(tree, name), wants) != few
    ])


def may_write(tree, wants):
    """The ascending list of the folders that are written by some of the fewest PLANs."""
    _check_wants(tree, wants)
    few = fewest(tree, wants)
    return sorted([
        name for name, parent in head_parents(tree).items()
        if parent is None or _fewest_apart(tree, wants, name) == few
    ])


def pieces(tree, one, other):
    """The ascending list of the pieces: folders of unlike values by both, as far as they hang together."""
    first, second = given_by(tree, one), given_by(tree, other)
    tops = {}
    for name, parent, _ in tree:
        if first[name] != second[name]:
            tops[name] = tops.get(parent, name)
    return sorted([
        tuple(sorted([part for part in tops if tops[part] == top]))
        for top in tops if tops[top] == top
    ])


def exchanged(tree, one, other, folders):
    """The lean PLAN by which these folders have their values by other, and all others theirs by one."""
    first, second = given_by(tree, one), given_by(tree, other)
    given = {name: second[name] if name in folders else first[name] for name in first}
    torn = sorted([name for name, parent, is_locked in tree if is_locked and given[name] != given[parent]])
    if torn:
        raise Locked(torn[0])
    return lean_plan(tree, given)


def _check_wants(tree, wants):
    """Raises the error of wants without which, or by which, there are no fewest PLANs to tell of."""
    if len(wants) == 0:
        raise NoWants()
    if clash(tree, wants) is not None:
        raise Clashing()


def _wished(wants):
    """The ascending list of the wanted values."""
    return sorted({value for _, value in wants})


def _ways_alone(asked, head, values):
    """A dict of the values that the head can have: no changes yet, and one way to have them."""
    if head in asked:
        return {asked[head][1]: (0, 1)}
    return {value: (0, 1) for value in values}


def _with_branch(ways, branch):
    """The ways at a head, a dict by its values, with the branch of one more head below it."""
    found = {}
    for above, (changes, many) in ways.items():
        few, times = _fewest_ways([
            (below if value == above else below + 1, kinds)
            for value, (below, kinds) in branch.items()
        ])
        found[above] = (changes + few, many * times)
    return found


def _fewest_ways(ways):
    """Of pairs of changes and how many ways: the fewest changes, and how many ways have so few."""
    few = min([changes for changes, _ in ways])
    return few, sum([many for changes, many in ways if changes == few])


def _with_locked(tree, folder):
    """The TREE with this folder locked."""
    return [(name, parent, is_locked or name == folder) for name, parent, is_locked in tree]


def _fewest_apart(tree, wants, folder):
    """How few settings a PLAN that serves has if this folder, not the root, is written in it.

    What is wanted above has no part in what is at this folder and below it then. (Folders without wants at or below
    them cost nothing, and neither do those above that want nothing: so both may stay parts of the whole TREE.)
    """
    branch = branch_of(tree, folder)
    below = [want for want in wants if want[0] in branch]
    others = [want for want in wants if want[0] not in branch]
    return fewest(tree, below) + fewest(tree, others)
