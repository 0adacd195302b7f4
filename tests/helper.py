"""What the tests share: calls as they are handed in, answers taken apart, and the tree's rules by hashlib."""

import hashlib

from grownlist.entries import answers

LOWEST = -2147483648
HIGHEST = 2147483647

OPEN = [1, 0, 0]


def add(entry):
    return [2, 1 + len(entry), len(entry)] + list(entry) + [0]


def bad_add(n):
    """An add whose n is not as told: it comes without bytes."""
    return [2, 1, n, 0]


def get(entry):
    return [3, 1, entry, 0]


def root(n):
    return [4, 1, n, 0]


def way(n, m):
    return [5, 2, n, m, 0]


def grown(n, m):
    return [6, 2, n, m, 0]


def isin(n, m, root_bytes, leaf_bytes, digests):
    return bad_isin(n, m, len(digests), root_bytes, leaf_bytes, digests)


def bad_isin(n, m, k, root_bytes, leaf_bytes, digests=()):
    """An isin whose k is told apart from its digests: where k is not as told, it comes without any."""
    parts = list(root_bytes) + list(leaf_bytes)
    for one in digests:
        parts.extend(one)
    return [7, 3 + len(parts), n, m, k] + parts + [0]


def ask(*calls):
    """What each of these calls answers, one list a call."""
    handed = []
    for call in calls:
        handed.extend(call)
    told = answers(handed)
    apart = []
    at = 0
    while at < len(told):
        apart.append(told[at + 1:at + 1 + told[at]])
        at += 1 + told[at]
    if at != len(told) or len(apart) != len(calls):
        raise AssertionError("the answers' counts don't fit the calls")
    return apart


def ask_of(entries, calls):
    """What the calls answer behind an open and adds of these entries, with no more than 40 calls at a time."""
    before = [OPEN] + [add(entry) for entry in entries]
    room = 40 - len(before)
    told = []
    for at in range(0, len(calls), room):
        told.extend(ask(*before, *calls[at:at + room])[len(before):])
    return told


def sha(data):
    return hashlib.sha256(bytes(data)).digest()


def leaf(entry):
    return sha(b"\0" + bytes(entry))


def joined(left, right):
    return sha(b"\1" + bytes(left) + bytes(right))


def plain_root(leaves):
    """The root, joined from below: whole pairs of each row, one that is left over moves up."""
    if not leaves:
        return sha(b"")
    row = list(leaves)
    while len(row) > 1:
        above = [joined(row[i], row[i + 1]) for i in range(0, len(row) - 1, 2)]
        row = above + row[len(above) * 2:]
    return row[0]


def way_holds(n, m, start, digests, goal):
    """RFC 9162, 2.1.3.2: from below, by the bits of m and n, not by halves as the document says it."""
    place, last, reached = m, n - 1, start
    for other in digests:
        if last == 0:
            return False
        if place % 2 == 1 or place == last:
            reached = joined(other, reached)
            while place % 2 == 0 and place != 0:
                place, last = place // 2, last // 2
        else:
            reached = joined(reached, other)
        place, last = place // 2, last // 2
    return last == 0 and reached == goal


def in_digests(answer):
    """An answer of way or grown as digests; its count has to fit."""
    digests = [bytes(answer[at:at + 32]) for at in range(1, len(answer), 32)]
    if answer[0] != len(digests) or len(answer) != 1 + 32 * len(digests):
        raise AssertionError("the count doesn't fit the digests")
    return digests


def some_entries(count):
    """Entries of different lengths and bytes."""
    return [[(7 * i + j) % 256 for j in range(i * 5 % 23)] + [i] for i in range(count)]
