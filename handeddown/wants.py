"""What wants cost: which ones can be given up to save settings, which few want as many, and what one more costs."""

from itertools import combinations

from handeddown.errors import Clashing
from handeddown.routes import fewest

# No NAME, so nobody can want it.
UNWANTED = ""


def spared(tree, wants):
    """The ascending list of the folders whose wants, each alone given up, save a setting or more."""
    few = _needed(tree, wants)
    return [
        folder for folder, _ in wants
        if fewest(tree, [want for want in wants if want[0] != folder]) < few
    ]


def core(tree, wants):
    """WANTS of as few of these as can be that want as many settings; of several the least."""
    few = _needed(tree, wants)
    pairs = [(folder, value) for folder, value in wants]
    # No want asks for more than one setting, so fewer wants than settings never do; but one there is without wants.
    first = 0 if few == 1 else few
    for size in range(first, len(pairs)):
        # As the pairs ascend, so do their combinations.
        for some in combinations(pairs, size):
            if fewest(tree, some) == few:
                return some
    return tuple(pairs)


def costs(tree, wants, folder):
    """How many settings more if a value that nobody wants were wanted at this folder, which has no want, too.

    None if the folder is tied to one with a want.
    """
    few = _needed(tree, wants)
    wished = {name: value for name, value in wants}
    more = fewest(tree, sorted({**wished, folder: UNWANTED}.items()))
    return None if more is None else more - few


def _needed(tree, wants):
    """How few settings serve; raises the error of wants that no PLAN serves."""
    few = fewest(tree, wants)
    if few is None:
        raise Clashing()
    return few
