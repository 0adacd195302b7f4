"""The calls on one list of entries: how they are handed in, what is refused, and what each answers."""

from grownlist.trees import grown_from, leads, leaf_of, root_of, way_of

NO_LIST = -7
NOT_AS_TOLD = -2
FULL = -5

MOST_ENTRIES = 256
MOST_BYTES = 32768
LONGEST_ENTRY = 4096
MOST_LEAVES = 65536
LONGEST_WAY = 17


class GrownList:
    """What the calls of one line share: the list, once there is one."""

    def __init__(self):
        self.present = False
        self.entries = []
        self.leaves = []
        self.size = 0

    def begin(self):
        """A list with no entries, whatever there was."""
        self.present = True
        self.entries = []
        self.leaves = []
        self.size = 0

    def put(self, entry):
        """One more entry at the end."""
        self.entries.append(entry)
        # Kept, since every root, way and growth needs the leaves again.
        self.leaves.append(leaf_of(entry))
        self.size = self.size + len(entry)


def counted(digests):
    """How many digests there are, then their bytes."""
    told = [len(digests)]
    for one in digests:
        told.extend(one)
    return told


def answer_begin(kept, numbers):
    """Call 1: a list with no entries."""
    kept.begin()
    return [0]


def answer_add(kept, numbers):
    """Call 2: the number of the new entry."""
    n = numbers[0]
    if n < 0 or n > LONGEST_ENTRY:
        return [NOT_AS_TOLD]
    if len(kept.entries) >= MOST_ENTRIES or kept.size + n > MOST_BYTES:
        return [FULL]
    kept.put(numbers[1:1 + n])
    return [len(kept.entries) - 1]


def answer_get(kept, numbers):
    """Call 3: how many bytes the entry has, then these."""
    entry = numbers[0]
    if entry < 0 or entry >= len(kept.entries):
        return [NOT_AS_TOLD]
    found = kept.entries[entry]
    return [len(found)] + found


def answer_root(kept, numbers):
    """Call 4: 0, then the root of the first n."""
    n = numbers[0]
    if n < 0 or n > len(kept.leaves):
        return [NOT_AS_TOLD]
    return [0] + root_of(kept.leaves[:n])


def answer_way(kept, numbers):
    """Call 5: how many digests, then these, of leaf m's way among the first n."""
    n = numbers[0]
    m = numbers[1]
    if n < 1 or n > len(kept.leaves) or m < 0 or m >= n:
        return [NOT_AS_TOLD]
    return counted(way_of(kept.leaves[:n], m))


def answer_grown(kept, numbers):
    """Call 6: how many digests, then these, from the first m to the first n."""
    n = numbers[0]
    m = numbers[1]
    if n < 1 or n > len(kept.leaves) or m < 1 or m > n:
        return [NOT_AS_TOLD]
    return counted(grown_from(kept.leaves[:n], m, True))


def answer_isin(kept, numbers):
    """Call 7: 1 if the digests lead from the leaf to the root, else 0."""
    n = numbers[0]
    m = numbers[1]
    k = numbers[2]
    if n < 1 or n > MOST_LEAVES or m < 0 or m >= n or k < 0 or k > LONGEST_WAY:
        return [NOT_AS_TOLD]
    parts = [numbers[3 + 32 * i:35 + 32 * i] for i in range(2 + k)]
    return [1] if leads(n, m, parts[0], parts[1], parts[2:]) else [0]


CALLS = {
    1: answer_begin,
    2: answer_add,
    3: answer_get,
    4: answer_root,
    5: answer_way,
    6: answer_grown,
    7: answer_isin,
}
NEED_A_LIST = (2, 3, 4, 5, 6)


def answer_to(kept, call, numbers):
    """What one call answers, as a list of numbers."""
    if call in NEED_A_LIST and not kept.present:
        return [NO_LIST]
    return CALLS[call](kept, numbers)


def answers(calls):
    """For each call, in order, how many numbers it answers, then these."""
    kept = GrownList()
    told = []
    at = 0
    while at < len(calls):
        count = calls[at + 1]
        answer = answer_to(kept, calls[at], calls[at + 2:at + 2 + count])
        told.append(len(answer))
        told.extend(answer)
        # Behind its numbers each call has a 0: it has no lists.
        at = at + 2 + count + 1
    return told
