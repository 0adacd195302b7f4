"""The tree over the leaves of a list, as RFC 6962's: its root, ways, and what shows that it has only grown."""

from grownlist.digests import digest_of


def leaf_of(entry):
    """The leaf of an entry, which is a list of bytes."""
    return digest_of([0] + entry)


def joined(left, right):
    """The root of what has these two roots, the left one of the first leaves."""
    return digest_of([1] + left + right)


def first_part(n):
    """The greatest power of two below n, which is 2 at least: how many leaves stand left."""
    k = 1
    while 2 * k < n:
        k = 2 * k
    return k


# The defs below that call themselves halve the leaves each time, so they nest no deeper than a number has bits.


def root_of(leaves):
    """The root of these leaves."""
    if len(leaves) == 0:
        return digest_of([])
    if len(leaves) == 1:
        return leaves[0]
    k = first_part(len(leaves))
    return joined(root_of(leaves[:k]), root_of(leaves[k:]))


def way_of(leaves, m):
    """The digests of leaf m's way among these leaves."""
    if len(leaves) == 1:
        return []
    k = first_part(len(leaves))
    if m < k:
        return way_of(leaves[:k], m) + [root_of(leaves[k:])]
    return way_of(leaves[k:], m - k) + [root_of(leaves[:k])]


def grown_from(leaves, m, whole):
    """The digests that lead from the first m to all of these leaves."""
    if m == len(leaves):
        return [] if whole else [root_of(leaves)]
    k = first_part(len(leaves))
    if m <= k:
        return grown_from(leaves[:k], m, whole) + [root_of(leaves[k:])]
    return grown_from(leaves[k:], m - k, False) + [root_of(leaves[:k])]


def left_turns(n, m):
    """For each joining from leaf m of n up to the root: whether the leaf is in its left part."""
    turns = []
    size = n
    place = m
    while size > 1:
        k = first_part(size)
        turns.append(place < k)
        if place < k:
            size = k
        else:
            size = size - k
            place = place - k
    return list(reversed(turns))


def leads(n, m, root, leaf, digests):
    """Whether the digests, as leaf m's way among n, lead from the leaf to the root."""
    turns = left_turns(n, m)
    if len(digests) != len(turns):
        return False
    reached = leaf
    for left, other in zip(turns, digests):
        reached = joined(reached, other) if left else joined(other, reached)
    return reached == root


def growth_turns(n, m):
    """For each joining from the end of the first m up to the root of n: whether that end is in its left part."""
    turns = left_turns(n, m - 1)
    # The first m end with leaf m - 1: as long as it's in right parts only, what is joined ends with it too, and
    # grown tells that as one root.
    start = 0
    while start < len(turns) and not turns[start]:
        start = start + 1
    return turns[start:]


def goes_on(n, m, root, earlier, digests):
    """Whether the digests, as grown from m to n, lead to both the root of n and the earlier one of m."""
    turns = growth_turns(n, m)
    # With no turn to the right the first m stand whole in the tree, and their root is where it begins.
    path = [earlier] + digests if all(turns) else digests
    if len(path) != 1 + len(turns):
        return False
    old = path[0]
    new = path[0]
    for left, other in zip(turns, path[1:]):
        if left:
            new = joined(new, other)
        else:
            old = joined(other, old)
            new = joined(other, new)
    return old == earlier and new == root
