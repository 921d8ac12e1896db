"""The fewest settings that serve, and the routes that show why there are no fewer."""

from handeddown.plans import lean_plan
from handeddown.ties import asked_of, head_parents, heads

# The root has a value also where nobody wants one.
ANY_VALUE = "a"


def clash(tree, wants):
    """None, or the least pair of tied folders that want unlike values."""
    found = heads(tree)
    # Wants ascend by folder, so the first such pair is the least one.
    for at, (one, value) in enumerate(wants):
        for other, wish in wants[at + 1:]:
            if found[one] == found[other] and value != wish:
                return (one, other)
    return None


def fewest(tree, wants):
    """How few settings a PLAN that serves has; None if there is a clash."""
    plan = fewest_plan(tree, wants)
    return None if plan is None else len(plan)


def fewest_plan(tree, wants):
    """A PLAN that serves with as few settings as can be; None if there is a clash."""
    if clash(tree, wants) is not None:
        return None
    best = _best_values(head_parents(tree), asked_of(tree, wants))
    given = {}
    for name, parent, _ in tree:
        if parent is None:
            given[name] = best.get(name, [ANY_VALUE])[0]
        elif name not in best or given[parent] in best[name]:
            given[name] = given[parent]
        else:
            # Any other value costs one change more below, as many as the change here.
            given[name] = best[name][0]
    return lean_plan(tree, given)


def is_reason(tree, wants, thing):
    """Whether thing is a REASON: ROUTEs of which no two can have one last change of the value."""
    wanted = {folder: value for folder, value in wants}
    if not isinstance(thing, tuple) or not all([_is_route(wanted, route) for route in thing]):
        return False
    if len(set(thing)) != len(thing):
        return False
    passes = {row[0]: [] for row in tree if not row[2]}
    for start, end in thing:
        for folder, is_up in _way(tree, start, end):
            if folder in passes:
                passes[folder].append((is_up, wanted[end]))
    return all([_can_all_pass(told) for told in list(passes.values())])


def routes(tree, wants):
    """A REASON, ascending, of one ROUTE less than fewest tells; None if there is a clash."""
    if clash(tree, wants) is not None:
        return None
    parents, asked = head_parents(tree), asked_of(tree, wants)
    values = sorted({value for _, value in wants})
    ways = _ways(parents, asked, values)
    found = []
    for head, (end, value) in asked.items():
        sources = list(ways.get((head, value), []))
        for source in sources:
            start, _ = asked[_traced_back(ways, asked, source, value)]
            found.append((start, end))
    return tuple(sorted(found))


def shown(tree, wants, reason):
    """How many settings a REASON shows to be needed."""
    return len(reason) + 1


def _best_values(parents, asked):
    """A dict of the heads with wants at or below them: the values that cost the fewest changes there, ascending."""
    best = {}
    below = {name: [] for name in parents}
    for name in reversed(list(parents)):
        if name in asked:
            best[name] = [asked[name][1]]
        elif below[name]:
            best[name] = _most_frequent(below[name])
        if name in best and parents[name] is not None:
            below[parents[name]].append(best[name])
    return best


def _most_frequent(lists):
    """The ascending list of the values that stand in the most of these lists."""
    counts = {}
    for values in lists:
        for value in values:
            counts[value] = counts.get(value, 0) + 1
    most = max(list(counts.values()))
    return sorted([value for value in counts if counts[value] == most])


def _is_route(wanted, route):
    """Whether route is a pair of folders at which unlike values are wanted."""
    if not isinstance(route, tuple) or len(route) != 2:
        return False
    # A list is no key of a dict.
    if not all([isinstance(folder, str) and folder in wanted for folder in route]):
        return False
    return wanted[route[0]] != wanted[route[1]]


def _way(tree, start, end):
    """The pairs (folder, is_up) of the folders that a ROUTE passes."""
    rising, falling = _line(tree, start), _line(tree, end)
    ups = [(folder, True) for folder in rising if folder not in falling]
    return ups + [(folder, False) for folder in falling if folder not in rising]


def _line(tree, folder):
    """The folder and all those above it."""
    parents = {row[0]: row[1] for row in tree}
    found = []
    while folder is not None:
        found.append(folder)
        folder = parents[folder]
    return found


def _can_all_pass(passes):
    """Whether ROUTEs can pass a folder so: pairs (is_up, the value that is wanted at the end)."""
    for at, (is_up, value) in enumerate(passes):
        for is_other_up, wish in passes[at + 1:]:
            if (is_up == is_other_up) == (value == wish):
                return False
    return True


def _ways(parents, asked, values):
    """A dict of pairs (head, value): the heads next to it from which a way of this value leads to it.

    A way of a value is one to a folder that wants it. From a head that is not turned one way of each value that is
    not among its best ones leads upwards; to one that is turned one way of each of its best values leads downwards.
    So at each head of which nothing is asked at least as many ways of each value arrive as leave.
    """
    best = _best_values(parents, asked)
    turned = _turned(parents, asked, best)
    ways = {}
    for name in best:
        parent = parents[name]
        for value in values:
            if parent is not None and (value in best[name]) == (name in turned):
                there, source = (name, parent) if name in turned else (parent, name)
                ways.setdefault((there, value), []).append(source)
    return ways


def _turned(parents, asked, best):
    """A dict of the heads that ways pass downwards.

    Each change that is needed at a head of which nothing is asked sends a way downwards, and so does a way that comes
    down to it: as far as a head of which something is asked. (As one child at least needs no change, there are enough.)
    """
    turned = {}
    for name in parents:
        children = [child for child in best if parents[child] == name]
        if children and name not in asked:
            changes = len([child for child in children if best[name][0] not in best[child]])
            for child in children[:changes + (1 if name in turned else 0)]:
                turned[child] = True
    return turned


def _traced_back(ways, asked, head, value):
    """The head at which a way of this value begins that comes to this head; what it takes is taken out of ways."""
    while head not in asked:
        head = ways[(head, value)].pop()
    return head
