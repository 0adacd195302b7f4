"""Marks of bytes by a key (HMAC, RFC 2104), and bytes derived from a secret (HKDF's second half, RFC 5869)."""

from grownlist.digests import digest_of, short_digest_of

SHA_1 = 0
SHA_256 = 1
BLOCK = 64
INNER = 0x36
OUTER = 0x5C


def made_of(how, message):
    """What SHA-1 or SHA-256, whichever how names, makes of a list of bytes."""
    return short_digest_of(message) if how == SHA_1 else digest_of(message)


def block_of(how, key):
    """The key as a block of 64 bytes."""
    fitting = made_of(how, key) if len(key) > BLOCK else key
    return fitting + [0] * (BLOCK - len(fitting))


def mark_by(how, block, message):
    """The mark of a list of bytes by a key that is a block already."""
    inner = made_of(how, [byte ^ INNER for byte in block] + message)
    return made_of(how, [byte ^ OUTER for byte in block] + inner)


def mark_of(how, key, message):
    """The mark of a list of bytes by a key."""
    return mark_by(how, block_of(how, key), message)


def derived_from(secret, purpose, count):
    """So many bytes derived from the secret for the purpose."""
    # Made once, since every part is a mark by the same key.
    block = block_of(SHA_256, secret)
    derived = []
    part = []
    i = 1
    while len(derived) < count:
        part = mark_by(SHA_256, block, part + purpose + [i])
        derived.extend(part)
        i = i + 1
    return derived[:count]
