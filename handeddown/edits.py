"""From one PLAN to another: the fewest edits, and the fewest settings."""

from handeddown.errors import Clashing
from handeddown.routes import clash


def edits(one, other):
    """The ascending list of the folders at which two PLANs are unlike."""
    first, second = _settings(one), _settings(other)
    return sorted([name for name in {**first, **second} if first.get(name) != second.get(name)])


def fewest_edits(tree, wants, plan):
    """The pair of the fewest edits that make the PLAN serve, and of the fewest settings after so few edits."""
    found = edited(tree, wants, plan)
    return len(edits(plan, found)), len(found)


def edited(tree, wants, plan):
    """A PLAN that serves, after the fewest edits, with the fewest settings then."""
    _check_clash(tree, wants)
    return _cheapest(tree, wants, plan, len(tree) + 1, 1)


def lean_edits(tree, wants, plan):
    """The pair of the fewest settings, and of the fewest edits that make the PLAN serve with so few settings."""
    found = lean_edited(tree, wants, plan)
    return len(found), len(edits(plan, found))


def lean_edited(tree, wants, plan):
    """A PLAN that serves, with the fewest settings, after the fewest edits then."""
    _check_clash(tree, wants)
    return _cheapest(tree, wants, plan, 1, len(tree) + 1)


def _check_clash(tree, wants):
    """Raises the error of wants that no PLAN serves."""
    if clash(tree, wants) is not None:
        raise Clashing()


def _settings(plan):
    """A new dict of the values that are written."""
    return {folder: value for folder, value in plan}


def _cheapest(tree, wants, plan, edit, setting):
    """A PLAN that serves and costs the least, if each edit and each setting costs so much.

    (Neither are there more edits than folders nor more settings: at len(tree) + 1 to 1 the dear ones decide.)
    """
    kept = _settings(plan)
    # A value that is in neither meets no want: what the PLAN has in its place serves as well, without an edit.
    values = sorted({value for _, value in [*wants, *plan]})
    costs = _costs_alone(tree, wants, values, (len(tree) + 1) * (edit + setting))
    choices = {}
    for name, parent, is_locked in reversed(tree):
        options = _options(parent, is_locked, values)
        own = {
            value: (0 if value is None else setting) + (0 if value == kept.get(name) else edit)
            for value in options
        }
        aboves = [None] if parent is None else values
        for above in aboves:
            prices = [own[value] + costs[name][above if value is None else value] for value in options]
            choices[(name, above)] = options[prices.index(min(prices))]
            if parent is not None:
                costs[parent][above] += min(prices)
    return _chosen(tree, choices)


def _costs_alone(tree, wants, values, too_much):
    """A dict for each folder of what each value costs at it: nothing, or too much if another one is wanted."""
    wanted = _settings(wants)
    return {
        row[0]: {value: 0 if value == wanted.get(row[0], value) else too_much for value in values}
        for row in tree
    }


def _options(parent, is_locked, values):
    """The list of what can be written at a folder; None stands for nothing."""
    if is_locked:
        return [None]
    return values if parent is None else [None, *values]


def _chosen(tree, choices):
    """The PLAN of these choices: a dict of pairs of a folder and of the value above it."""
    given, settings = {}, []
    for name, parent, _ in tree:
        above = given.get(parent)
        value = choices[(name, above)]
        given[name] = above if value is None else value
        if value is not None:
            settings.append((name, value))
    return tuple(sorted(settings))
