import unittest

import helper
from grownlist.digests import digest_of

KNOWN = (
    (b"", "e3b0c44298fc1c149afbf4c8996fb92427ae41e4649b934ca495991b7852b855"),
    (b"abc", "ba7816bf8f01cfea414140de5dae2223b00361a396177a9cb410ff61f20015ad"),
    (
        b"abcdbcdecdefdefgefghfghighijhijkijkljklmklmnlmnomnopnopq",
        "248d6a61d20638b8e5c026930c3e6039a33ce45964ff2167f6ecedd419db06c1",
    ),
)


class Digests(unittest.TestCase):
    def same_as_python(self, data):
        self.assertEqual(digest_of(list(data)), list(helper.sha(data)))

    def test_known_texts(self):
        for text, told in KNOWN:
            self.assertEqual(bytes(digest_of(list(text))).hex(), told)

    def test_every_length_around_a_block_and_two(self):
        for length in range(131):
            self.same_as_python([(length + 3 * i) % 256 for i in range(length)])

    def test_blocks_edges_of_equal_bytes(self):
        for length in (55, 56, 63, 64, 65, 119, 120):
            for byte in (0, 1, 127, 128, 255):
                self.same_as_python([byte] * length)

    def test_thousands_of_bytes(self):
        for length in (1000, 4095, 4096, 4097, 8191, 8192, 32768):
            self.same_as_python([i * i % 251 for i in range(length)])

    def test_message_stays_as_it_was(self):
        message = [1, 2, 3]
        digest_of(message)
        self.assertEqual(message, [1, 2, 3])


if __name__ == "__main__":
    unittest.main()
