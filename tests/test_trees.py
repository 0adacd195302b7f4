"""Calls 4 to 6: root, way, grown."""

import unittest

from grownlist.entries import GrownList, answer_to
from helper import HIGHEST, LOWEST, ask_of, grown, grown_holds, in_digests, joined, leaf, plain_root, root, sha
from helper import some_entries, way, way_holds

MOST = 35
ENTRIES = some_entries(MOST)
LEAVES = [leaf(entry) for entry in ENTRIES]

# The entries and roots that implementations of RFC 6962 are commonly tested with.
KNOWN_ENTRIES = ("", "00", "10", "2021", "3031", "40414243", "5051525354555657", "606162636465666768696a6b6c6d6e6f")
KNOWN_ROOTS = (
    "e3b0c44298fc1c149afbf4c8996fb92427ae41e4649b934ca495991b7852b855",
    "6e340b9cffb37a989ca544e6bb780a2c78901d3fb33738768511a30617afa01d",
    "fac54203e7cc696cf0dfcb42c92a1d9dbaf70ad9e621f4bd8d98662f00e3c125",
    "aeb6bcfe274b70a14fb067a5e5578264db0fa9b51af5e0ba159158f329e06e77",
    "d37ee418976dd95753c1c73862b9398fa2a2cf9b4ff0fdfe8b30cd95209614b7",
    "4e3bbb1f7b478dcfe71fb631631519a3bca12c9aefca1612bfce4c13a86264d4",
    "76e67dadbcdf1e10e1b74ddc608abd2f98dfb16fbce75277b5232a127f2087ef",
    "ddb89be403809e325750d3d263cd78929c2942b7942a34b77e122c9594a74c8c",
    "5dc9da79a70659a9ad559cb701ded9a2ab9d823aad2f4960cfe370eff4604328",
)


def filled(count):
    kept = GrownList()
    answer_to(kept, 1, [])
    for i in range(count):
        answer_to(kept, 2, [1, i])
    return kept


class Root(unittest.TestCase):
    def test_known_roots(self):
        entries = [list(bytes.fromhex(entry)) for entry in KNOWN_ENTRIES]
        told = ask_of(entries, [root(n) for n in range(9)])
        self.assertEqual(told, [[0] + list(bytes.fromhex(one)) for one in KNOWN_ROOTS])

    def test_of_each_number_when_there_are_more(self):
        told = ask_of(ENTRIES, [root(n) for n in range(MOST + 1)])
        self.assertEqual(told, [[0] + list(plain_root(LEAVES[:n])) for n in range(MOST + 1)])

    def test_of_all_there_are(self):
        for n in range(MOST + 1):
            self.assertEqual(ask_of(ENTRIES[:n], [root(n)]), [[0] + list(plain_root(LEAVES[:n]))])

    def test_none_and_one(self):
        self.assertEqual(ask_of([], [root(0)]), [[0] + list(sha(b""))])
        self.assertEqual(ask_of([[]], [root(0), root(1)]), [[0] + list(sha(b"")), [0] + list(sha(b"\0"))])

    def test_of_a_full_list(self):
        kept = filled(256)
        leaves = [leaf([i]) for i in range(256)]
        for n in (127, 128, 129, 200, 255, 256):
            self.assertEqual(answer_to(kept, 4, [n]), [0] + list(plain_root(leaves[:n])))
        self.assertEqual(answer_to(kept, 4, [257]), [-2])

    def test_not_as_told(self):
        for count in (0, 1, 5):
            wrong = (-1, count + 1, count + 2, LOWEST, HIGHEST)
            self.assertEqual(ask_of(ENTRIES[:count], [root(n) for n in wrong]), [[-2]] * len(wrong))


class Way(unittest.TestCase):
    def test_of_seven_as_in_rfc_6962(self):
        a, b, c, d, e, f, j = LEAVES[:7]
        g, h, i = joined(a, b), joined(c, d), joined(e, f)
        k, right = joined(g, h), joined(i, j)
        told = [in_digests(one) for one in ask_of(ENTRIES[:7], [way(7, m) for m in (0, 3, 4, 6)])]
        self.assertEqual(told, [[b, h, right], [c, g, right], [f, j, k], [i, k]])

    def test_every_leaf_of_every_number(self):
        pairs = [(n, m) for n in range(1, MOST - 1) for m in range(n)]
        told = ask_of(ENTRIES[:MOST - 2], [way(n, m) for n, m in pairs])
        for (n, m), answer in zip(pairs, told, strict=True):
            goal = plain_root(LEAVES[:n])
            self.assertTrue(way_holds(n, m, LEAVES[m], in_digests(answer), goal), (n, m))

    def test_of_one_leaf(self):
        self.assertEqual(ask_of(ENTRIES[:1], [way(1, 0)]), [[0]])
        self.assertEqual(ask_of(ENTRIES[:6], [way(1, 0)]), [[0]])

    def test_of_a_full_list(self):
        kept = filled(256)
        leaves = [leaf([i]) for i in range(256)]
        for n, m in ((256, 0), (256, 255), (256, 128), (255, 254), (129, 128), (129, 127)):
            digests = in_digests(answer_to(kept, 5, [n, m]))
            self.assertTrue(way_holds(n, m, leaves[m], digests, plain_root(leaves[:n])), (n, m))

    def test_not_as_told(self):
        wrong = [(0, 0), (0, -1), (6, 0), (6, 5), (5, 5), (5, 6), (5, -1), (3, 3), (3, 4), (1, 1), (-1, 0), (-1, -2)]
        wrong += [(LOWEST, 0), (HIGHEST, 0), (5, LOWEST), (5, HIGHEST), (HIGHEST, LOWEST), (LOWEST, LOWEST)]
        self.assertEqual(ask_of(ENTRIES[:5], [way(n, m) for n, m in wrong]), [[-2]] * len(wrong))
        self.assertEqual(ask_of([], [way(0, 0), way(1, 0)]), [[-2], [-2]])


class Grown(unittest.TestCase):
    def test_of_seven_as_in_rfc_6962(self):
        a, b, c, d, e, f, j = LEAVES[:7]
        g, h, i = joined(a, b), joined(c, d), joined(e, f)
        k, right = joined(g, h), joined(i, j)
        told = [in_digests(one) for one in ask_of(ENTRIES[:7], [grown(7, m) for m in (3, 4, 6)])]
        self.assertEqual(told, [[c, d, g, right], [right], [i, j, k]])

    def test_every_growth_of_every_number(self):
        pairs = [(n, m) for n in range(1, MOST - 1) for m in range(1, n)]
        told = ask_of(ENTRIES[:MOST - 2], [grown(n, m) for n, m in pairs])
        for (n, m), answer in zip(pairs, told, strict=True):
            holds = grown_holds(n, m, in_digests(answer), plain_root(LEAVES[:n]), plain_root(LEAVES[:m]))
            self.assertTrue(holds, (n, m))

    def test_not_grown_at_all(self):
        told = ask_of(ENTRIES[:MOST - 2], [grown(n, n) for n in range(1, MOST - 1)])
        self.assertEqual(told, [[0]] * (MOST - 2))

    def test_of_a_full_list(self):
        kept = filled(256)
        leaves = [leaf([i]) for i in range(256)]
        for n, m in ((256, 1), (256, 255), (256, 128), (255, 254), (255, 129), (129, 128)):
            digests = in_digests(answer_to(kept, 6, [n, m]))
            self.assertTrue(grown_holds(n, m, digests, plain_root(leaves[:n]), plain_root(leaves[:m])), (n, m))

    def test_not_as_told(self):
        wrong = [(0, 0), (0, 1), (6, 1), (6, 6), (5, 0), (5, 6), (5, -1), (3, 4), (3, 0), (-1, -1), (-1, 1)]
        wrong += [(LOWEST, 1), (HIGHEST, 1), (HIGHEST, HIGHEST), (LOWEST, LOWEST), (5, LOWEST), (5, HIGHEST)]
        self.assertEqual(ask_of(ENTRIES[:5], [grown(n, m) for n, m in wrong]), [[-2]] * len(wrong))
        self.assertEqual(ask_of([], [grown(0, 0), grown(1, 1)]), [[-2], [-2]])


if __name__ == "__main__":
    unittest.main()
