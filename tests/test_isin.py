"""Call 7: isin."""

import unittest

from helper import HIGHEST, LOWEST, OPEN, add, ask, ask_many, bad_isin, changed, isin, joined, leaf, some_entries
from helper import told_digests, told_roots, way, way_holds

MOST = 20
ENTRIES = some_entries(MOST)
LEAVES = [leaf(entry) for entry in ENTRIES]


def long_way(m, count):
    """A root that so many made-up digests lead to from a leaf, the leaf and they, where n is two to that power."""
    start = leaf([m % 256])
    digests = [leaf([i, 77]) for i in range(count)]
    reached = start
    for i, other in enumerate(digests):
        reached = joined(other, reached) if m >> i & 1 else joined(reached, other)
    return reached, start, digests


class IsIn(unittest.TestCase):
    @classmethod
    def setUpClass(cls):
        cls.roots = told_roots(ENTRIES)
        cls.ways = told_digests(ENTRIES, way, [(n, m) for n in range(1, MOST + 1) for m in range(n)])

    def all_answer(self, calls, answer):
        self.assertEqual(ask_many(calls), [[answer]] * len(calls))

    def test_what_way_tells_leads_to_what_root_tells(self):
        self.all_answer([isin(n, m, self.roots[n], LEAVES[m], digests) for n, m, digests in self.ways], 1)

    def test_also_where_there_is_a_list(self):
        n, m, digests = self.ways[-1]
        call = isin(n, m, self.roots[n], LEAVES[m], digests)
        self.assertEqual(ask(call, OPEN, call, add([1]), call), [[1], [0], [1], [0], [1]])

    def test_another_root(self):
        calls = [isin(n, m, changed(self.roots[n], (n + m) % 32), LEAVES[m], d) for n, m, d in self.ways]
        calls += [isin(n, m, self.roots[n - 1], LEAVES[m], d) for n, m, d in self.ways]
        self.all_answer(calls, 0)

    def test_a_root_that_differs_in_any_one_byte(self):
        self.all_answer([isin(1, 0, changed(LEAVES[0], at), LEAVES[0], []) for at in range(32)], 0)

    def test_another_leaf(self):
        calls = [isin(n, m, self.roots[n], LEAVES[m - 1], d) for n, m, d in self.ways if n > 1]
        calls += [isin(n, m, self.roots[n], changed(LEAVES[m], 31), d) for n, m, d in self.ways]
        self.all_answer(calls, 0)

    def test_another_m(self):
        calls = []
        for n, m, digests in self.ways:
            calls += [isin(n, other, self.roots[n], LEAVES[m], digests) for other in range(n) if other != m]
        self.all_answer(calls, 0)

    def test_another_n(self):
        # Among some other numbers a leaf has the same way, with as many joinings on the same sides: among those
        # these digests do lead there, as the RFC's own check says too; among all others they don't.
        cases = [(other, n, m, digests) for n, m, digests in self.ways for other in range(m + 1, 40, 3) if other != n]
        told = ask_many([isin(other, m, self.roots[n], LEAVES[m], digests) for other, n, m, digests in cases])
        holds = [way_holds(other, m, LEAVES[m], digests, self.roots[n]) for other, n, m, digests in cases]
        self.assertEqual(told, [[1] if one else [0] for one in holds])
        self.assertIn(True, holds)
        self.assertIn(False, holds)

    def test_another_n_with_another_way(self):
        digests = self.way_told(7, 5)
        told = ask(*[isin(n, 5, self.roots[7], LEAVES[5], digests) for n in (6, 7, 8, 9, 16, 65536)])
        self.assertEqual(told, [[0], [1], [1], [0], [0], [0]])
        digests = self.way_told(5, 4)
        told = ask(*[isin(n, 4, self.roots[5], LEAVES[4], digests) for n in (5, 6, 7, 8, 9, 65536)])
        self.assertEqual(told, [[1], [0], [0], [0], [0], [0]])

    def way_told(self, n, m):
        return [digests for one, other, digests in self.ways if (one, other) == (n, m)][0]

    def test_a_digest_changed(self):
        calls = []
        for n, m, digests in self.ways:
            for i, one in enumerate(digests):
                other = digests[:i] + [changed(one, (n + m + i) % 32)] + digests[i + 1:]
                calls.append(isin(n, m, self.roots[n], LEAVES[m], other))
        self.all_answer(calls, 0)

    def test_digests_in_another_order(self):
        calls = [isin(n, m, self.roots[n], LEAVES[m], d[::-1]) for n, m, d in self.ways if len(d) > 1]
        self.all_answer(calls, 0)

    def test_one_too_few(self):
        calls = [isin(n, m, self.roots[n], LEAVES[m], d[:-1]) for n, m, d in self.ways if d]
        calls += [isin(n, m, self.roots[n], LEAVES[m], d[1:]) for n, m, d in self.ways if d]
        # What is reached a step early is no root of these either.
        calls.append(isin(2, 0, LEAVES[0], LEAVES[0], []))
        calls.append(isin(4, 1, self.roots[2], LEAVES[1], [LEAVES[0]]))
        self.all_answer(calls, 0)

    def test_one_over(self):
        calls = [isin(n, m, self.roots[n], LEAVES[m], d + [LEAVES[0]]) for n, m, d in self.ways]
        calls += [isin(n, m, joined(self.roots[n], LEAVES[0]), LEAVES[m], d + [LEAVES[0]]) for n, m, d in self.ways]
        self.all_answer(calls, 0)


class Bounds(unittest.TestCase):
    def test_one_leaf(self):
        same = leaf([1])
        self.assertEqual(ask(isin(1, 0, same, same, []), isin(1, 0, same, leaf([2]), [])), [[1], [0]])

    def test_most_leaves(self):
        for m in (0, 1, 12345, 32767, 32768, 65535):
            goal, start, digests = long_way(m, 16)
            self.assertEqual(ask(isin(65536, m, goal, start, digests)), [[1]])
            self.assertEqual(ask(isin(65536, m ^ 1, goal, start, digests)), [[0]])
            self.assertEqual(ask(isin(65536, m ^ 32768, goal, start, digests)), [[0]])

    def test_last_leaf_of_one_less_than_most(self):
        start = leaf([3])
        digests = [leaf([i, 5]) for i in range(15)]
        goal = start
        for other in digests:
            goal = joined(other, goal)
        self.assertEqual(ask(isin(65535, 65534, goal, start, digests)), [[1]])

    def test_most_digests_are_one_over(self):
        for m in (0, 65535):
            goal, start, digests = long_way(m, 17)
            shorter = long_way(m, 16)[0]
            self.assertEqual(ask(isin(65536, m, goal, start, digests)), [[0]])
            self.assertEqual(ask(isin(65536, m, shorter, start, digests)), [[0]])

    def test_no_digests_where_some_are_needed(self):
        same = leaf([1])
        self.assertEqual(ask(*[isin(n, 0, same, same, []) for n in (2, 3, 65536)]), [[0]] * 3)

    def test_not_as_told(self):
        same = leaf([1])
        wrong = [(0, 0), (0, -1), (65537, 0), (65537, 65536), (-1, -2), (LOWEST, 0), (HIGHEST, 0), (LOWEST, LOWEST)]
        wrong += [(1, -1), (1, 1), (5, 5), (5, 6), (65536, 65536), (5, LOWEST), (5, HIGHEST), (HIGHEST, LOWEST)]
        self.assertEqual(ask(*[isin(n, m, same, same, []) for n, m in wrong]), [[-2]] * len(wrong))
        wrong = (-1, 18, LOWEST, HIGHEST)
        self.assertEqual(ask(*[bad_isin(1, 0, k, same, same) for k in wrong]), [[-2]] * len(wrong))
        self.assertEqual(ask(*[bad_isin(0, 0, k, same, same) for k in wrong]), [[-2]] * len(wrong))

    def test_not_as_told_with_digests_behind(self):
        goal, start, digests = long_way(0, 16)
        calls = [isin(65537, 0, goal, start, digests), isin(65536, 65536, goal, start, digests)]
        self.assertEqual(ask(*calls, isin(65536, 0, goal, start, digests)), [[-2], [-2], [1]])


if __name__ == "__main__":
    unittest.main()
