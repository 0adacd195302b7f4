"""The calls on one list of entries: how they are handed in, what is refused, and what each answers."""

from grownlist.marks import derived_from, mark_of
from grownlist.trees import goes_on, grown_from, leads, leaf_of, root_of, way_of

NO_LIST = -7
NOT_AS_TOLD = -2
FULL = -5
NONE_FOUND = -1

MOST_ENTRIES = 256
MOST_BYTES = 32768
LONGEST_ENTRY = 4096
MOST_LEAVES = 65536
LONGEST_WAY = 17
LONGEST_GROWTH = 18
LONGEST_KEY = 256
LONGEST_MARKED = 4096
LONGEST_SECRET = 256
LONGEST_PURPOSE = 256
LONGEST_DERIVED = 1024


class GrownList:
    """What the calls of one line share: the list, once there is one."""

    def __init__(self):
        self.present = False
        self.entries = []
        self.leaves = []
        self.size = 0

    def begin(self):
        """A list with no entries, whatever there was."""
        self.present = True
        self.entries = []
        self.leaves = []
        self.size = 0

    def put(self, entry):
        """One more entry at the end."""
        self.entries.append(entry)
        # Kept, since every root, way and growth needs the leaves again.
        self.leaves.append(leaf_of(entry))
        self.size = self.size + len(entry)


def counted(digests):
    """How many digests there are, then their bytes."""
    told = [len(digests)]
    for one in digests:
        told.extend(one)
    return told


def digests_in(numbers):
    """Bytes handed in as digests of 32 bytes each."""
    return [numbers[at:at + 32] for at in range(0, len(numbers), 32)]


def answer_begin(kept, numbers):
    """Call 1: a list with no entries."""
    kept.begin()
    return [0]


def answer_add(kept, numbers):
    """Call 2: the number of the new entry."""
    n = numbers[0]
    if n < 0 or n > LONGEST_ENTRY:
        return [NOT_AS_TOLD]
    if len(kept.entries) >= MOST_ENTRIES or kept.size + n > MOST_BYTES:
        return [FULL]
    kept.put(numbers[1:1 + n])
    return [len(kept.entries) - 1]


def answer_get(kept, numbers):
    """Call 3: how many bytes the entry has, then these."""
    entry = numbers[0]
    if entry < 0 or entry >= len(kept.entries):
        return [NOT_AS_TOLD]
    found = kept.entries[entry]
    return [len(found)] + found


def answer_root(kept, numbers):
    """Call 4: 0, then the root of the first n."""
    n = numbers[0]
    if n < 0 or n > len(kept.leaves):
        return [NOT_AS_TOLD]
    return [0] + root_of(kept.leaves[:n])


def answer_way(kept, numbers):
    """Call 5: how many digests, then these, of leaf m's way among the first n."""
    n = numbers[0]
    m = numbers[1]
    if n < 1 or n > len(kept.leaves) or m < 0 or m >= n:
        return [NOT_AS_TOLD]
    return counted(way_of(kept.leaves[:n], m))


def answer_grown(kept, numbers):
    """Call 6: how many digests, then these, from the first m to the first n."""
    n = numbers[0]
    m = numbers[1]
    if n < 1 or n > len(kept.leaves) or m < 1 or m > n:
        return [NOT_AS_TOLD]
    return counted(grown_from(kept.leaves[:n], m, True))


def answer_isin(kept, numbers):
    """Call 7: 1 if the digests lead from the leaf to the root, else 0."""
    n = numbers[0]
    m = numbers[1]
    k = numbers[2]
    if n < 1 or n > MOST_LEAVES or m < 0 or m >= n or k < 0 or k > LONGEST_WAY:
        return [NOT_AS_TOLD]
    parts = digests_in(numbers[3:])
    return [1] if leads(n, m, parts[0], parts[1], parts[2:]) else [0]


def answer_goeson(kept, numbers):
    """Call 8: 1 if the digests lead, as grown from m to n, to both roots, else 0."""
    n = numbers[0]
    m = numbers[1]
    k = numbers[2]
    if n < 1 or n > MOST_LEAVES or m < 1 or m > n or k < 0 or k > LONGEST_GROWTH:
        return [NOT_AS_TOLD]
    parts = digests_in(numbers[3:])
    return [1] if goes_on(n, m, parts[0], parts[1], parts[2:]) else [0]


def answer_find(kept, numbers):
    """Call 9: the number of the first entry with this leaf."""
    for i, leaf in enumerate(kept.leaves):
        if leaf == numbers:
            return [i]
    return [NONE_FOUND]


def can_mark(how, k, n):
    """Whether how, k and n are as told of mark and same."""
    return 0 <= how and how <= 1 and 0 <= k and k <= LONGEST_KEY and 0 <= n and n <= LONGEST_MARKED


def mark_asked(numbers):
    """The mark of the n bytes by the key of k bytes, with how, k and n ahead of these."""
    start = 3 + numbers[1]
    return mark_of(numbers[0], numbers[3:start], numbers[start:start + numbers[2]])


def answer_mark(kept, numbers):
    """Call 10: 0, then the mark."""
    if not can_mark(numbers[0], numbers[1], numbers[2]):
        return [NOT_AS_TOLD]
    return [0] + mark_asked(numbers)


def answer_same(kept, numbers):
    """Call 11: 1 if the bytes behind key and bytes are the mark, else 0."""
    if not can_mark(numbers[0], numbers[1], numbers[2]):
        return [NOT_AS_TOLD]
    given = numbers[3 + numbers[1] + numbers[2]:]
    return [1] if given == mark_asked(numbers) else [0]


def answer_derive(kept, numbers):
    """Call 12: n, then n bytes derived from the secret for the purpose."""
    s = numbers[0]
    w = numbers[1]
    n = numbers[2]
    if s < 0 or s > LONGEST_SECRET or w < 0 or w > LONGEST_PURPOSE or n < 0 or n > LONGEST_DERIVED:
        return [NOT_AS_TOLD]
    return [n] + derived_from(numbers[3:3 + s], numbers[3 + s:3 + s + w], n)


def answer_count(kept, numbers):
    """Call 13: how many entries there are, then how many bytes together."""
    return [len(kept.entries), kept.size]


CALLS = {
    1: answer_begin,
    2: answer_add,
    3: answer_get,
    4: answer_root,
    5: answer_way,
    6: answer_grown,
    7: answer_isin,
    8: answer_goeson,
    9: answer_find,
    10: answer_mark,
    11: answer_same,
    12: answer_derive,
    13: answer_count,
}
NEED_A_LIST = (2, 3, 4, 5, 6, 9, 13)


def answer_to(kept, call, numbers):
    """What one call answers, as a list of numbers."""
    if call in NEED_A_LIST and not kept.present:
        return [NO_LIST]
    return CALLS[call](kept, numbers)


def answers(calls):
    """For each call, in order, how many numbers it answers, then these."""
    kept = GrownList()
    told = []
    at = 0
    while at < len(calls):
        count = calls[at + 1]
        answer = answer_to(kept, calls[at], calls[at + 2:at + 2 + count])
        told.append(len(answer))
        told.extend(answer)
        # Behind its numbers each call has a 0: it has no lists.
        at = at + 2 + count + 1
    return told
