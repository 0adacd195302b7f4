"""Call 8: goeson."""

import unittest

from helper import HIGHEST, LOWEST, OPEN, add, ask, ask_many, bad_goeson, changed, goeson, grown, grown_holds, joined
from helper import leaf, root, some_entries, told_digests, told_roots

MOST = 33
ENTRIES = some_entries(MOST)
FEWER = 18


def made_up(count):
    return [leaf([i, 99]) for i in range(count)]


def long_growth(m):
    """Both roots and made-up digests of a growth from m to 65536, for an m with a growth that is easily told."""
    if m == 65536:
        return leaf([1]), leaf([1]), []
    if m == 32768:
        return joined(leaf([1]), leaf([2])), leaf([1]), [leaf([2])]
    digests = made_up(16 if m == 1 else 17)
    if m == 1:
        new = old = leaf([1])
        for other in digests:
            new = joined(new, other)
        return new, old, digests
    # m is 65535: the last leaf but one, the last, and then all that stands left of them.
    new, old = joined(digests[0], digests[1]), digests[0]
    for other in digests[2:]:
        new, old = joined(other, new), joined(other, old)
    return new, old, digests


class GoesOn(unittest.TestCase):
    @classmethod
    def setUpClass(cls):
        cls.roots = told_roots(ENTRIES)
        cls.all = told_digests(ENTRIES, grown, [(n, m) for n in range(1, MOST + 1) for m in range(1, n + 1)])
        cls.some = [(n, m, digests) for n, m, digests in cls.all if n <= FEWER]

    def all_answer(self, calls, answer):
        self.assertEqual(ask_many(calls), [[answer]] * len(calls))

    def with_digests(self, n, m, digests):
        return goeson(n, m, self.roots[n], self.roots[m], digests)

    def test_what_grown_tells_leads_to_what_root_tells(self):
        self.all_answer([self.with_digests(n, m, digests) for n, m, digests in self.all], 1)

    def test_also_where_there_is_a_list(self):
        n, m, digests = self.all[-5]
        call = self.with_digests(n, m, digests)
        self.assertEqual(ask(call, OPEN, call, add([1]), call), [[1], [0], [1], [0], [1]])

    def test_makes_no_list(self):
        self.assertEqual(ask(goeson(1, 1, leaf([1]), leaf([1]), []), root(0)), [[1], [-7]])

    def test_another_root_of_n(self):
        calls = [goeson(n, m, changed(self.roots[n], (n + m) % 32), self.roots[m], d) for n, m, d in self.some]
        calls += [goeson(n, m, self.roots[n - 1], self.roots[m], d) for n, m, d in self.some]
        calls += [goeson(n, m, self.roots[m], self.roots[m], d) for n, m, d in self.some if n != m]
        self.all_answer(calls, 0)

    def test_another_root_of_m(self):
        calls = [goeson(n, m, self.roots[n], changed(self.roots[m], (n + m) % 32), d) for n, m, d in self.some]
        calls += [goeson(n, m, self.roots[n], self.roots[m - 1], d) for n, m, d in self.some]
        calls += [goeson(n, m, self.roots[n], self.roots[n], d) for n, m, d in self.some if n != m]
        self.all_answer(calls, 0)

    def test_both_roots_exchanged(self):
        self.all_answer([goeson(n, m, self.roots[m], self.roots[n], d) for n, m, d in self.some if n != m], 0)

    def test_a_digest_changed(self):
        calls = []
        for n, m, digests in self.some:
            for i, one in enumerate(digests):
                other = digests[:i] + [changed(one, (n + m + i) % 32)] + digests[i + 1:]
                calls.append(self.with_digests(n, m, other))
        self.all_answer(calls, 0)

    def test_digests_in_another_order(self):
        self.all_answer([self.with_digests(n, m, d[::-1]) for n, m, d in self.some if len(d) > 1], 0)

    def test_one_too_few(self):
        calls = [self.with_digests(n, m, d[:-1]) for n, m, d in self.some if d]
        calls += [self.with_digests(n, m, d[1:]) for n, m, d in self.some if d]
        # What is reached a step early is no root of n either.
        calls.append(goeson(8, 2, self.roots[4], self.roots[2], self.told(4, 2)))
        calls.append(goeson(8, 3, self.roots[4], self.roots[3], self.told(4, 3)))
        calls.append(goeson(2, 1, self.roots[1], self.roots[1], []))
        self.all_answer(calls, 0)

    def test_no_digests_where_some_are_needed(self):
        calls = [goeson(n, m, self.roots[m], self.roots[m], []) for n, m, d in self.some if d]
        self.all_answer(calls, 0)

    def test_one_over(self):
        more = leaf([7])
        calls = [self.with_digests(n, m, d + [more]) for n, m, d in self.some]
        calls += [self.with_digests(n, m, [more] + d) for n, m, d in self.some]
        calls += [goeson(n, m, joined(self.roots[n], more), self.roots[m], d + [more]) for n, m, d in self.some]
        calls += [goeson(n, m, joined(more, self.roots[n]), joined(more, self.roots[m]), d + [more])
                  for n, m, d in self.some]
        self.all_answer(calls, 0)

    def test_root_of_m_among_the_digests(self):
        # Where the first m are whole their root is not told a second time.
        self.all_answer([self.with_digests(n, m, [self.roots[m]] + d) for n, m, d in self.some], 0)

    def test_another_n_or_m(self):
        cases = []
        for n, m, digests in self.some[::3]:
            cases += [(other, m, n, m, digests) for other in range(m + 1, 24, 3) if other != n]
            cases += [(n, other, n, m, digests) for other in range(1, n) if other != m]
        told = ask_many([goeson(n, m, self.roots[a], self.roots[b], d) for n, m, a, b, d in cases])
        holds = [grown_holds(n, m, d, self.roots[a], self.roots[b]) for n, m, a, b, d in cases]
        self.assertEqual(told, [[1] if one else [0] for one in holds])
        self.assertIn(True, holds)
        self.assertIn(False, holds)

    def told(self, n, m):
        return [digests for one, other, digests in self.all if (one, other) == (n, m)][0]

    def test_all_of_them_need_no_digests(self):
        calls = [goeson(n, n, self.roots[n], self.roots[n], []) for n in range(1, MOST + 1)]
        self.all_answer(calls + [goeson(65536, 65536, self.roots[3], self.roots[3], [])], 1)
        calls = [goeson(n, n, self.roots[n], self.roots[n - 1], []) for n in range(1, MOST + 1)]
        calls += [goeson(n, n, self.roots[n], self.roots[n], [self.roots[n]]) for n in range(1, MOST + 1)]
        self.all_answer(calls, 0)

    def test_all_of_them_with_any_one_byte_changed(self):
        same = self.roots[5]
        self.all_answer([goeson(5, 5, same, changed(same, at), []) for at in range(32)], 0)


class Bounds(unittest.TestCase):
    def test_most_leaves(self):
        for m in (1, 32768, 65535, 65536):
            new, old, digests = long_growth(m)
            self.assertEqual(ask(goeson(65536, m, new, old, digests)), [[1]])
            told = ask(
                goeson(65536, m, changed(new, 0), old, digests),
                goeson(65536, m, new, changed(old, 31), digests),
                goeson(65536, m, new, old, digests + [leaf([5])]),
                goeson(65536, m, new, old, digests[:-1] if digests else [old]),
            )
            self.assertEqual(told, [[0]] * 4)

    def test_long_growths_are_as_the_rfc_has_them(self):
        for m in (1, 32768, 65535):
            new, old, digests = long_growth(m)
            self.assertTrue(grown_holds(65536, m, digests, new, old))

    def test_a_last_part_of_one_or_of_two(self):
        # The two leaves ahead of the last part, that part, and then all that stands left of them.
        digests = made_up(16)
        new, old = joined(digests[0], digests[1]), digests[0]
        for other in digests[2:]:
            new, old = joined(other, new), joined(other, old)
        for n in (65535, 65536):
            self.assertTrue(grown_holds(n, 65534, digests, new, old))
            self.assertEqual(ask(goeson(n, 65534, new, old, digests)), [[1]])
            self.assertEqual(ask(goeson(n, 65533, new, old, digests)), [[0]])

    def test_most_digests_are_always_over(self):
        for m in (1, 32768, 65535, 65536):
            new, old, digests = long_growth(m)
            eighteen = digests + made_up(18 - len(digests))
            self.assertEqual(ask(goeson(65536, m, new, old, eighteen)), [[0]])
            self.assertEqual(ask(goeson(1, 1, old, old, eighteen)), [[0]])

    def test_not_as_told(self):
        one = leaf([1])
        wrong = [(0, 0), (0, 1), (65537, 1), (65537, 65537), (-1, -1), (-1, 1), (LOWEST, 1), (HIGHEST, 1)]
        wrong += [(LOWEST, LOWEST), (HIGHEST, HIGHEST), (1, 0), (1, 2), (1, -1), (5, 0), (5, 6), (65536, 0)]
        wrong += [(65536, 65537), (5, LOWEST), (5, HIGHEST), (HIGHEST, LOWEST), (LOWEST, HIGHEST)]
        self.assertEqual(ask(*[goeson(n, m, one, one, []) for n, m in wrong]), [[-2]] * len(wrong))
        wrong = (-1, 19, LOWEST, HIGHEST)
        self.assertEqual(ask(*[bad_goeson(1, 1, k, one, one) for k in wrong]), [[-2]] * len(wrong))
        self.assertEqual(ask(*[bad_goeson(0, 0, k, one, one) for k in wrong]), [[-2]] * len(wrong))

    def test_not_as_told_with_digests_behind(self):
        new, old, digests = long_growth(65535)
        calls = [goeson(65537, 65535, new, old, digests), goeson(65536, 65537, new, old, digests)]
        calls.append(goeson(65536, 0, new, old, digests))
        self.assertEqual(ask(*calls, goeson(65536, 65535, new, old, digests)), [[-2], [-2], [-2], [1]])


if __name__ == "__main__":
    unittest.main()
