"""What the tests share: calls as handed in, answers taken apart, and the document's rules by hashlib and hmac."""

import hashlib
import hmac

from grownlist.entries import answers

LOWEST = -2147483648
HIGHEST = 2147483647

OPEN = [1, 0, 0]
COUNT = [13, 0, 0]


def add(entry):
    return [2, 1 + len(entry), len(entry)] + list(entry) + [0]


def bad_add(n):
    """An add whose n is not as told: it comes without bytes."""
    return [2, 1, n, 0]


def get(entry):
    return [3, 1, entry, 0]


def root(n):
    return [4, 1, n, 0]


def way(n, m):
    return [5, 2, n, m, 0]


def grown(n, m):
    return [6, 2, n, m, 0]


def isin(n, m, root_bytes, leaf_bytes, digests):
    return bad_isin(n, m, len(digests), root_bytes, leaf_bytes, digests)


def bad_isin(n, m, k, root_bytes, leaf_bytes, digests=()):
    """An isin whose k is told apart from its digests: where k is not as told, it comes without any."""
    return with_parts(7, (n, m, k), root_bytes, leaf_bytes, *digests)


def goeson(n, m, new_root, old_root, digests):
    return bad_goeson(n, m, len(digests), new_root, old_root, digests)


def bad_goeson(n, m, k, new_root, old_root, digests=()):
    """A goeson whose k is told apart from its digests, likewise."""
    return with_parts(8, (n, m, k), new_root, old_root, *digests)


def find(leaf_bytes):
    return with_parts(9, (), leaf_bytes)


def mark(how, key, data):
    return bad_mark(how, len(key), len(data), key, data)


def bad_mark(how, k, n, key=b"", data=b""):
    """A mark whose k and n are told apart from their bytes: where one is not as told, it comes without its bytes."""
    return with_parts(10, (how, k, n), key, data)


def same(how, key, data, told):
    return bad_same(how, len(key), len(data), told, key, data)


def bad_same(how, k, n, told, key=b"", data=b""):
    return with_parts(11, (how, k, n), key, data, told)


def derive(secret, purpose, n):
    return bad_derive(len(secret), len(purpose), n, secret, purpose)


def bad_derive(s, w, n, secret=b"", purpose=b""):
    return with_parts(12, (s, w, n), secret, purpose)


def with_parts(call, numbers, *parts):
    """A call with bytes, each of the parts behind the one before."""
    handed = list(numbers)
    for part in parts:
        handed.extend(part)
    return [call, len(handed)] + handed + [0]


def ask(*calls):
    """What each of these calls answers, one list a call."""
    handed = []
    for call in calls:
        handed.extend(call)
    told = answers(handed)
    apart = []
    at = 0
    while at < len(told):
        apart.append(told[at + 1:at + 1 + told[at]])
        at += 1 + told[at]
    if at != len(told) or len(apart) != len(calls):
        raise AssertionError("the answers' counts don't fit the calls")
    return apart


def ask_many(calls):
    """Answers of calls that need no list, 40 at a time."""
    told = []
    for at in range(0, len(calls), 40):
        told.extend(ask(*calls[at:at + 40]))
    return told


def ask_of(entries, calls):
    """What the calls answer behind an open and adds of these entries, with no more than 40 calls at a time."""
    before = [OPEN] + [add(entry) for entry in entries]
    room = 40 - len(before)
    told = []
    for at in range(0, len(calls), room):
        told.extend(ask(*before, *calls[at:at + room])[len(before):])
    return told


def told_roots(entries):
    """The root of the first n entries for every n, as the program tells it."""
    told = ask_of(entries, [root(n) for n in range(len(entries) + 1)])
    return [bytes(one[1:]) for one in told]


def told_digests(entries, call, pairs):
    """What way or grown tells of each n and m, as (n, m, digests)."""
    told = ask_of(entries, [call(n, m) for n, m in pairs])
    return [(n, m, in_digests(one)) for (n, m), one in zip(pairs, told, strict=True)]


def sha(data):
    return hashlib.sha256(bytes(data)).digest()


def leaf(entry):
    return sha(b"\0" + bytes(entry))


def joined(left, right):
    return sha(b"\1" + bytes(left) + bytes(right))


def plain_root(leaves):
    """The root, joined from below: whole pairs of each row, one that is left over moves up."""
    if not leaves:
        return sha(b"")
    row = list(leaves)
    while len(row) > 1:
        above = [joined(row[i], row[i + 1]) for i in range(0, len(row) - 1, 2)]
        row = above + row[len(above) * 2:]
    return row[0]


def plain_mark(how, key, data):
    return hmac.new(key, data, ("sha1", "sha256")[how]).digest()


def plain_derived(secret, purpose, n):
    parts = [b""]
    for i in range(1, 34):
        parts.append(hmac.new(secret, parts[-1] + purpose + bytes([i]), "sha256").digest())
    return b"".join(parts)[:n]


def way_holds(n, m, start, digests, goal):
    """RFC 9162, 2.1.3.2: from below, by the bits of m and n, not by halves as the document says it."""
    place, last, reached = m, n - 1, start
    for other in digests:
        if last == 0:
            return False
        if place % 2 == 1 or place == last:
            reached = joined(other, reached)
            while place % 2 == 0 and place != 0:
                place, last = place // 2, last // 2
        else:
            reached = joined(reached, other)
        place, last = place // 2, last // 2
    return last == 0 and reached == goal


def grown_holds(n, m, digests, new_root, old_root):
    """RFC 9162, 2.1.4.2, for m below n; by bits as well."""
    path = list(digests)
    if m & m - 1 == 0:
        path = [old_root] + path
    if not path:
        return False
    place, last = m - 1, n - 1
    while place % 2 == 1:
        place, last = place // 2, last // 2
    old = new = path[0]
    for other in path[1:]:
        if last == 0:
            return False
        if place % 2 == 1 or place == last:
            old, new = joined(other, old), joined(other, new)
            while place % 2 == 0 and place != 0:
                place, last = place // 2, last // 2
        else:
            new = joined(new, other)
        place, last = place // 2, last // 2
    return last == 0 and old == old_root and new == new_root


def in_digests(answer):
    """An answer of way or grown as digests; its count has to fit."""
    digests = [bytes(answer[at:at + 32]) for at in range(1, len(answer), 32)]
    if answer[0] != len(digests) or len(answer) != 1 + 32 * len(digests):
        raise AssertionError("the count doesn't fit the digests")
    return digests


def changed(data, at):
    """The bytes with one bit of the byte at this place another."""
    return data[:at] + bytes([data[at] ^ 1]) + data[at + 1:]


def some_entries(count):
    """Entries of different lengths and bytes."""
    return [[(7 * i + j) % 256 for j in range(i * 5 % 23)] + [i] for i in range(count)]
