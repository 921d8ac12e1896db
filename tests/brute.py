"""What the document says of ways, clashes, reasons and fewest plans, tried out in plain steps."""

from itertools import combinations, product

from tests.samples import plans, value_above


def way(tree, start, end):
    """The pairs (folder, "up" or "down") that are passed from start to end."""
    parents = {name: parent for name, parent, _ in tree}

    def depth(folder):
        return 0 if parents[folder] is None else 1 + depth(parents[folder])

    ups, downs = [], []
    while start != end:
        if depth(start) >= depth(end):
            ups.append((start, "up"))
            start = parents[start]
        else:
            downs.append((end, "down"))
            end = parents[end]
    return ups + downs[::-1]


def are_tied(tree, one, other):
    """Whether all folders on the way but the topmost one, which is not passed, are locked."""
    locked = {name for name, _, is_locked in tree if is_locked}
    return all(folder in locked for folder, _ in way(tree, one, other))


def least_clash(tree, wants):
    found = []
    for one, other in combinations(wants, 2):
        if are_tied(tree, one[0], other[0]) and one[1] != other[1]:
            found.append(tuple(sorted((one[0], other[0]))))
    return min(found, default=None)


def givings(tree, values):
    """All dicts of values of all folders in which the locked ones have their parents' values."""
    free = [name for name, _, is_locked in tree if not is_locked]
    for chosen in product(values, repeat=len(free)):
        given = dict(zip(free, chosen))
        for name, parent, _ in tree:
            if name not in given:
                given[name] = given[parent]
        yield given


def settings_of(tree, given):
    """How many settings give these values: one at the root, and one at each folder of another value than its parent."""
    return 1 + sum(1 for name, parent, _ in tree if parent is not None and given[name] != given[parent])


def fewest_of_all(tree, wants, values):
    """The fewest settings of all ways to give values to all folders; None if none gives what is wanted."""
    found = [
        settings_of(tree, given) for given in givings(tree, values)
        if all(given[folder] == value for folder, value in wants)]
    return min(found, default=None)


def plans_that_serve(tree, wants, values):
    return [
        plan for plan in plans(tree, values)
        if all(value_above(tree, plan, folder) == value for folder, value in wants)]


def fewest_plans(tree, wants, values):
    """All plans that serve with as few settings as any of them, in no order that matters."""
    serving = plans_that_serve(tree, wants, values)
    few = min((len(plan) for plan in serving), default=None)
    return [plan for plan in serving if len(plan) == few]


def all_routes(wants):
    """All pairs of folders at which unlike values are wanted."""
    return [(one[0], other[0]) for one in wants for other in wants if one[1] != other[1]]


def can_go_together(tree, wants, one, other):
    """Whether two routes are as those of a reason have to be to each other."""
    if one == other:
        return False
    wanted = dict(wants)
    locked = {name for name, _, is_locked in tree if is_locked}
    second = dict(way(tree, *other))
    for folder, direction in way(tree, *one):
        if folder in locked or folder not in second:
            continue
        if direction == second[folder] and wanted[one[1]] == wanted[other[1]]:
            return False
        if direction != second[folder] and wanted[one[1]] != wanted[other[1]]:
            return False
    return True


def holds_as_reason(tree, wants, routes):
    """Whether these are different routes of which each two can go together."""
    known = all_routes(wants)
    return all(route in known for route in routes) and all(
        can_go_together(tree, wants, one, other) for one, other in combinations(routes, 2))


def most_routes(tree, wants):
    """The number of routes of the largest reason."""
    every = all_routes(wants)
    friends = {
        one: {other for other in every if can_go_together(tree, wants, one, other)} for one in every}

    def most(left):
        best = 0
        for at, one in enumerate(left):
            if len(left) - at <= best:
                break
            best = max(best, 1 + most([other for other in left[at + 1:] if other in friends[one]]))
        return best

    return most(every)


def counter(tree, values):
    """A function that tells of any wants the fewest settings, by all ways to give these values to the folders."""
    ways = [(given, settings_of(tree, given)) for given in givings(tree, values)]
    known = {}

    def few(wants):
        wants = tuple(wants)
        if wants not in known:
            known[wants] = min(
                (many for given, many in ways if all(given[folder] == value for folder, value in wants)),
                default=None)
        return known[wants]

    return few


def least_core(wants, few):
    """Of all sets of the wants that want as many settings as all: the smallest one, and the least of such."""
    found = []
    for size in range(len(wants) + 1):
        for some in combinations(wants, size):
            if few(some) == few(wants):
                found.append((size, tuple(sorted(some))))
    return min(found)[1]


def stands_in(tree, folder, top):
    """Whether the folder is this one at the top or stands below it."""
    parents = {name: parent for name, parent, _ in tree}
    while folder is not None and folder != top:
        folder = parents[folder]
    return folder == top


def moved_rows(tree, folder, parent):
    """The tree with the folder below this parent, which is not below it."""
    staying, going = [], []
    for name, above, is_locked in tree:
        if stands_in(tree, name, folder):
            going.append((name, parent if name == folder else above, is_locked))
        else:
            staying.append((name, above, is_locked))
    return tuple(staying) + tuple(going)


def parents_for(tree, folder):
    """The sorted folders below which this one can stand."""
    return sorted(row[0] for row in tree if not stands_in(tree, row[0], folder))
