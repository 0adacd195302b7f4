import hashlib
import unittest

from grownlist.digests import digest_of, short_digest_of

# A text, what SHA-1 makes of it, what SHA-256 makes of it.
KNOWN = (
    (b"", "da39a3ee5e6b4b0d3255bfef95601890afd80709",
     "e3b0c44298fc1c149afbf4c8996fb92427ae41e4649b934ca495991b7852b855"),
    (b"abc", "a9993e364706816aba3e25717850c26c9cd0d89d",
     "ba7816bf8f01cfea414140de5dae2223b00361a396177a9cb410ff61f20015ad"),
    (b"abcdbcdecdefdefgefghfghighijhijkijkljklmklmnlmnomnopnopq", "84983e441c3bd26ebaae4aa1f95129e5e54670f1",
     "248d6a61d20638b8e5c026930c3e6039a33ce45964ff2167f6ecedd419db06c1"),
    (b"The quick brown fox jumps over the lazy dog", "2fd4e1c67a2d28fced849ee1bb76e7391b93eb12",
     "d7a8fbb307d7809469ca9abcb0082e4f8d5651e46d3cdb762d02d0bf37c9e592"),
)


class Digests(unittest.TestCase):
    def same_as_python(self, data):
        self.assertEqual(bytes(digest_of(list(data))), hashlib.sha256(bytes(data)).digest())
        self.assertEqual(bytes(short_digest_of(list(data))), hashlib.sha1(bytes(data)).digest())

    def test_known_texts(self):
        for text, short, long in KNOWN:
            self.assertEqual(bytes(short_digest_of(list(text))).hex(), short)
            self.assertEqual(bytes(digest_of(list(text))).hex(), long)

    def test_every_length_around_a_block_and_two(self):
        for length in range(131):
            self.same_as_python([(length + 3 * i) % 256 for i in range(length)])

    def test_blocks_edges_of_equal_bytes(self):
        for length in (55, 56, 63, 64, 65, 119, 120):
            for byte in (0, 1, 127, 128, 255):
                self.same_as_python([byte] * length)

    def test_thousands_of_bytes(self):
        for length in (1000, 4095, 4096, 4097, 8191, 8192, 32768):
            self.same_as_python([i * i % 251 for i in range(length)])

    def test_message_stays_as_it_was(self):
        message = [1, 2, 3]
        digest_of(message)
        short_digest_of(message)
        self.assertEqual(message, [1, 2, 3])


if __name__ == "__main__":
    unittest.main()
