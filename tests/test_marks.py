"""Calls 10 to 12: mark, same, derive."""

import hashlib
import unittest

from helper import COUNT, HIGHEST, LOWEST, OPEN, add, ask, ask_many, bad_derive, bad_mark, bad_same, changed, derive
from helper import mark, plain_derived, plain_mark, root, same

KEYS = (0, 1, 63, 64, 65, 256)
LENGTHS = (0, 1, 54, 55, 56, 63, 64, 65, 119, 120, 4095, 4096)

# RFC 2202 and RFC 4231: key, bytes, the mark with SHA-1, the mark with SHA-256.
KNOWN_MARKS = (
    (b"\x0b" * 20, b"Hi There", "b617318655057264e28bc0b6fb378c8ef146be00",
     "b0344c61d8db38535ca8afceaf0bf12b881dc200c9833da726e9376c2e32cff7"),
    (b"Jefe", b"what do ya want for nothing?", "effcdf6ae5eb2fa2d27416d5f184df9c259a7c79",
     "5bdcc146bf60754e6a042426089575c75a003f089d2739839dec58b964ec3843"),
    (b"\xaa" * 20, b"\xdd" * 50, "125d7342b9ac11cd91a39af48aa17b4f63f175d3",
     "773ea91e36800e46854db8ebd09181a72959098b3ef8c122d9635514ced565fe"),
)

# RFC 5869, A.1 and A.2: the secret behind its first half, the purpose, what is derived.
KNOWN_DERIVED = (
    ("077709362c2e32df0ddc3f0dc47bba6390b6c73bb50f9c3122ec844ad7c2b3e5", "f0f1f2f3f4f5f6f7f8f9",
     "3cb25f25faacd57a90434f64d0362f2a2d2d0a90cf1a5a4c5db02d56ecc4c5bf34007208d5b887185865"),
    ("06a6b88c5853361a06104c9ceb35b45cef760014904671014a193f40c15fc244", bytes(range(0xB0, 0x100)).hex(),
     "b11e398dc80327a1c8e7f78c596a49344f012eda2d4efad8a050cc4c19afa97c59045a99cac7827271cb41c65e590e09"
     "da3275600c2f09b8367793a9aca3db71cc30c58179ec3e87c14c01d5c1f3434f1d87"),
)


def some_bytes(count, seed):
    return bytes((i * i + 5 * i + seed) % 256 for i in range(count))


def wrong_numbers():
    """(how, k, n), each with at least one number that isn't as told."""
    wrong = [(how, 0, 0) for how in (-1, 2, LOWEST, HIGHEST)]
    for how in (0, 1):
        wrong += [(how, k, 0) for k in (-1, 257, LOWEST, HIGHEST)]
        wrong += [(how, 0, n) for n in (-1, 4097, LOWEST, HIGHEST)]
        wrong += [(how, -1, 4097), (how, HIGHEST, LOWEST)]
    return wrong + [(-1, -1, -1), (2, 257, 4097), (LOWEST, LOWEST, LOWEST), (HIGHEST, HIGHEST, HIGHEST)]


# Where one number isn't as told, the bytes that the others tell come nevertheless.
WRONG_WITH_BYTES = (
    (-1, 3, 2, b"key", b"by"), (2, 256, 1, b"k" * 256, b"b"), (0, -1, 3, b"", b"abc"), (1, 257, 64, b"", b"x" * 64),
    (0, 4, -1, b"four", b""), (1, 65, 4097, b"k" * 65, b""), (HIGHEST, 1, 4096, b"k", b"b" * 4096),
)


class Mark(unittest.TestCase):
    def test_known_marks(self):
        for key, data, short, long in KNOWN_MARKS:
            told = ask(mark(0, key, data), mark(1, key, data))
            self.assertEqual(told, [[0] + list(bytes.fromhex(short)), [0] + list(bytes.fromhex(long))])

    def test_keys_and_lengths(self):
        for k in KEYS:
            for n in LENGTHS:
                key, data = some_bytes(k, n % 256), some_bytes(n, k % 256)
                told = ask(mark(0, key, data), mark(1, key, data))
                wanted = [[0] + list(plain_mark(how, key, data)) for how in (0, 1)]
                self.assertEqual(told, wanted, (k, n))

    def test_every_length_of_a_key_around_a_block(self):
        cases = [(how, some_bytes(k, 1), b"bytes") for how in (0, 1) for k in range(50, 80)]
        told = ask_many([mark(*case) for case in cases])
        self.assertEqual(told, [[0] + list(plain_mark(*case)) for case in cases])

    def test_key_and_bytes_are_told_apart(self):
        told = ask(mark(1, b"ab", b"c"), mark(1, b"a", b"bc"), mark(1, b"", b"abc"), mark(1, b"abc", b""))
        wanted = [plain_mark(1, b"ab", b"c"), plain_mark(1, b"a", b"bc"), plain_mark(1, b"", b"abc")]
        self.assertEqual(told, [[0] + list(one) for one in wanted + [plain_mark(1, b"abc", b"")]])

    def test_a_long_key_is_its_own_digest(self):
        key = some_bytes(65, 9)
        told = ask(mark(0, key, b"x"), mark(0, hashlib.sha1(key).digest(), b"x"))
        told += ask(mark(1, key, b"x"), mark(1, hashlib.sha256(key).digest(), b"x"))
        self.assertEqual(told[0], told[1])
        self.assertEqual(told[2], told[3])

    def test_not_as_told(self):
        wrong = wrong_numbers()
        self.assertEqual(ask_many([bad_mark(*one) for one in wrong]), [[-2]] * len(wrong))
        self.assertEqual(ask(*[bad_mark(*one) for one in WRONG_WITH_BYTES]), [[-2]] * len(WRONG_WITH_BYTES))

    def test_with_a_list_and_without(self):
        call = mark(0, b"key", b"bytes")
        wanted = [0] + list(plain_mark(0, b"key", b"bytes"))
        told = ask(call, root(0), OPEN, call, add([1]), call, COUNT)
        self.assertEqual(told, [wanted, [-7], [0], wanted, [0], wanted, [1, 1]])


class Same(unittest.TestCase):
    def test_the_mark(self):
        cases = [(how, some_bytes(k, 3), some_bytes(n, 4)) for how in (0, 1) for k in KEYS for n in (0, 1, 64, 1000)]
        told = ask_many([same(*case, plain_mark(*case)) for case in cases])
        self.assertEqual(told, [[1]] * len(cases))
        key, data = some_bytes(256, 1), some_bytes(4096, 2)
        self.assertEqual(ask(*[same(how, key, data, plain_mark(how, key, data)) for how in (0, 1)]), [[1], [1]])

    def test_any_one_byte_changed(self):
        for how, length in ((0, 20), (1, 32)):
            for key, data in ((b"key", b"bytes"), (b"", b""), (some_bytes(70, 1), some_bytes(70, 2))):
                told = plain_mark(how, key, data)
                calls = [same(how, key, data, changed(told, at)) for at in range(length)]
                self.assertEqual(ask(*calls), [[0]] * length)

    def test_another_key_or_other_bytes(self):
        for how in (0, 1):
            told = plain_mark(how, b"key", b"bytes")
            calls = [same(how, b"kez", b"bytes", told), same(how, b"key", b"bytez", told)]
            calls += [same(how, b"keyb", b"ytes", told), same(how, b"", b"keybytes", told)]
            self.assertEqual(ask(*calls, same(how, b"key", b"bytes", told)), [[0]] * 4 + [[1]])

    def test_the_other_way(self):
        short, long = plain_mark(0, b"key", b"bytes"), plain_mark(1, b"key", b"bytes")
        self.assertEqual(ask(same(0, b"key", b"bytes", long[:20]), same(1, b"key", b"bytes", short + bytes(12))),
                         [[0], [0]])

    def test_what_mark_tells(self):
        for how in (0, 1):
            told = bytes(ask(mark(how, b"a key", b"some bytes"))[0][1:])
            self.assertEqual(ask(same(how, b"a key", b"some bytes", told)), [[1]])

    def test_not_as_told(self):
        wrong = wrong_numbers()
        calls = [bad_same(how, k, n, bytes(20 if how == 0 else 32)) for how, k, n in wrong]
        self.assertEqual(ask_many(calls), [[-2]] * len(wrong))
        calls = [bad_same(how, k, n, bytes(20 if how == 0 else 32), key, data)
                 for how, k, n, key, data in WRONG_WITH_BYTES]
        self.assertEqual(ask(*calls), [[-2]] * len(calls))

    def test_not_as_told_with_the_mark_behind(self):
        told = plain_mark(1, b"", b"")
        self.assertEqual(ask(bad_same(2, 0, 0, told), bad_same(-1, 0, 0, told), bad_same(1, 0, -1, told)), [[-2]] * 3)

    def test_with_a_list_and_without(self):
        call = same(1, b"key", b"bytes", plain_mark(1, b"key", b"bytes"))
        self.assertEqual(ask(call, root(0), OPEN, call, COUNT), [[1], [-7], [0], [1], [0, 0]])


class Derive(unittest.TestCase):
    def test_known(self):
        for secret, purpose, wanted in KNOWN_DERIVED:
            n = len(wanted) // 2
            told = ask(derive(bytes.fromhex(secret), bytes.fromhex(purpose), n))
            self.assertEqual(told, [[n] + list(bytes.fromhex(wanted))])

    def test_how_many_bytes(self):
        secret, purpose = some_bytes(32, 1), b"purpose"
        for n in (0, 1, 31, 32, 33, 63, 64, 65, 1023, 1024):
            told = ask(derive(secret, purpose, n))
            self.assertEqual(told, [[n] + list(plain_derived(secret, purpose, n))], n)

    def test_secrets_and_purposes(self):
        for s in (0, 1, 63, 64, 65, 255, 256):
            for w in (0, 1, 22, 23, 255, 256):
                secret, purpose = some_bytes(s, w % 256), some_bytes(w, s % 256)
                told = ask(derive(secret, purpose, 70))
                self.assertEqual(told, [[70] + list(plain_derived(secret, purpose, 70))], (s, w))

    def test_most_of_all(self):
        secret, purpose = some_bytes(256, 1), some_bytes(256, 2)
        self.assertEqual(ask(derive(secret, purpose, 1024)), [[1024] + list(plain_derived(secret, purpose, 1024))])

    def test_secret_and_purpose_are_told_apart(self):
        told = ask(derive(b"ab", b"c", 32), derive(b"a", b"bc", 32))
        wanted = [plain_derived(b"ab", b"c", 32), plain_derived(b"a", b"bc", 32)]
        self.assertEqual(told, [[32] + list(one) for one in wanted])

    def test_not_as_told(self):
        wrong = [(s, 0, 32) for s in (-1, 257, LOWEST, HIGHEST)]
        wrong += [(0, w, 32) for w in (-1, 257, LOWEST, HIGHEST)]
        wrong += [(0, 0, n) for n in (-1, 1025, LOWEST, HIGHEST)]
        wrong += [(-1, 257, 1025), (LOWEST, HIGHEST, LOWEST), (-1, 0, 0), (0, -1, 0), (257, 0, 0), (0, 257, 0)]
        self.assertEqual(ask(*[bad_derive(*one) for one in wrong]), [[-2]] * len(wrong))

    def test_not_as_told_with_bytes_behind(self):
        calls = [bad_derive(3, 2, 1025, b"key", b"to"), bad_derive(3, 2, -1, b"key", b"to")]
        calls += [bad_derive(-1, 2, 32, b"", b"to"), bad_derive(257, 256, 32, b"", b"t" * 256)]
        calls += [bad_derive(3, -1, 32, b"key"), bad_derive(256, 257, 32, b"k" * 256)]
        self.assertEqual(ask(*calls), [[-2]] * len(calls))

    def test_with_a_list_and_without(self):
        call = derive(b"secret", b"purpose", 5)
        wanted = [5] + list(plain_derived(b"secret", b"purpose", 5))
        self.assertEqual(ask(call, root(0), OPEN, call, COUNT), [wanted, [-7], [0], wanted, [0, 0]])


if __name__ == "__main__":
    unittest.main()
