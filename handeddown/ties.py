"""Which folders are tied, so that they have one value by every PLAN, and what is wanted of them."""


def heads(tree):
    """A new dict of each folder's head: the nearest one, itself or above it, that is not locked."""
    found = {}
    for name, parent, is_locked in tree:
        found[name] = found[parent] if is_locked else name
    return found


def head_parents(tree):
    """A new dict of each head, parents ahead, and the head above it, None above the root."""
    found = heads(tree)
    return {
        name: None if parent is None else found[parent]
        for name, parent, is_locked in tree if not is_locked
    }


def asked_of(tree, wants):
    """A new dict of each head to which a want is tied, and the least such want (where there is no clash)."""
    found = heads(tree)
    asked = {}
    for folder, value in wants:
        asked.setdefault(found[folder], (folder, value))
    return asked
