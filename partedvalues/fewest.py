"""The fewest looks by which it can be told what a pattern does."""

from partedvalues.facts import Facts
from partedvalues.growing import thin_tree
from partedvalues.searching import Search


def depth(told):
    """Return the greatest number of looks on a way of a tree."""
    if told[0] == "end":
        return 0
    return 1 + max([depth(inner) for _, inner in told[2]], default=0)


def fewest(pattern):
    """Return the least depth of a tree that tells what a pattern does."""
    return Search(thin_tree(pattern)).least_depth()


def shallow(pattern):
    """Return a tree of the least depth that tells what a pattern does."""
    search = Search(thin_tree(pattern))
    search.least_depth()
    return search.told_behind(Facts())
