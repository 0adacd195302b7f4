"""Calls 1 to 3: open, add, get; and what holds for all that need a list."""

import unittest

from grownlist.entries import GrownList, answer_to
from helper import HIGHEST, LOWEST, OPEN, add, ask, bad_add, bad_isin, get, grown, leaf, root, sha, way

# More than 40 calls, or more bytes than one list of calls holds, are needed to fill a list: so these tests go
# call by call, with the object that answers() has for its calls.


def fresh():
    kept = GrownList()
    answer_to(kept, 1, [])
    return kept


def put(kept, entry):
    return answer_to(kept, 2, [len(entry)] + entry)


def seen(kept, count):
    """All that can be asked of a list with so many entries."""
    entries = [answer_to(kept, 3, [i]) for i in range(count)]
    return entries + [answer_to(kept, 4, [count]), answer_to(kept, 4, [count + 1]), answer_to(kept, 3, [count])]


class Open(unittest.TestCase):
    def test_answers_0(self):
        self.assertEqual(ask(OPEN), [[0]])

    def test_begins_without_entries(self):
        self.assertEqual(ask(OPEN, get(0), root(1), root(0)), [[0], [-2], [-2], [0] + list(sha(b""))])

    def test_begins_again(self):
        told = ask(OPEN, add([1]), add([2]), OPEN, get(0), get(1), root(1), way(1, 0), grown(1, 1), add([3]), get(0))
        self.assertEqual(told, [[0], [0], [1], [0], [-2], [-2], [-2], [-2], [-2], [0], [1, 3]])

    def test_begins_again_with_room_for_all_bytes(self):
        kept = fresh()
        for round_number in range(2):
            for i in range(8):
                self.assertEqual(put(kept, [i] * 4096), [i])
            self.assertEqual(put(kept, [0]), [-5])
            self.assertEqual(answer_to(kept, 1, []), [0])


class Add(unittest.TestCase):
    def test_answers_its_number(self):
        entries = [[i] * i for i in range(39)]
        told = ask(OPEN, *[add(entry) for entry in entries])
        self.assertEqual(told, [[0]] + [[i] for i in range(39)])

    def test_lengths(self):
        longest = [i % 256 for i in range(4096)]
        told = ask(OPEN, add([]), add([255]), add(longest), get(0), get(1), get(2))
        self.assertEqual(told, [[0], [0], [1], [2], [0], [1, 255], [4096] + longest])

    def test_equal_entries_are_two(self):
        self.assertEqual(ask(OPEN, add([5]), add([5]), get(1)), [[0], [0], [1], [1, 5]])

    def test_n_not_as_told(self):
        for n in (-1, 4097, LOWEST, HIGHEST):
            told = ask(OPEN, add([9]), root(1), bad_add(n), get(0), get(1), root(1), root(2), add([8]), get(1))
            self.assertEqual(told[3:6], [[-2], [1, 9], [-2]])
            self.assertEqual(told[6], told[2])
            self.assertEqual(told[7:], [[-2], [1], [1, 8]])

    def test_the_257th_entry(self):
        kept = fresh()
        for i in range(256):
            self.assertEqual(put(kept, [i]), [i])
        before = seen(kept, 256)
        self.assertEqual(put(kept, [1]), [-5])
        self.assertEqual(put(kept, []), [-5])
        self.assertEqual(seen(kept, 256), before)
        self.assertEqual(answer_to(kept, 3, [255]), [1, 255])

    def test_bytes_together(self):
        kept = fresh()
        for i in range(7):
            put(kept, [i] * 4096)
        put(kept, [7] * 4095)
        before = seen(kept, 8)
        self.assertEqual(put(kept, [1, 2]), [-5])
        self.assertEqual(put(kept, [1] * 4096), [-5])
        self.assertEqual(seen(kept, 8), before)
        self.assertEqual(put(kept, [1]), [8])
        self.assertEqual(put(kept, [1]), [-5])
        self.assertEqual(put(kept, []), [9])
        self.assertEqual(answer_to(kept, 3, [8]), [1, 1])

    def test_minus_2_ahead_of_minus_5(self):
        kept = fresh()
        for i in range(256):
            put(kept, [])
        self.assertEqual(answer_to(kept, 2, [-1]), [-2])
        self.assertEqual(answer_to(kept, 2, [4097]), [-2])
        other = fresh()
        for i in range(8):
            put(other, [0] * 4096)
        self.assertEqual(answer_to(other, 2, [4097]), [-2])
        self.assertEqual(answer_to(other, 2, [HIGHEST]), [-2])


class Get(unittest.TestCase):
    def test_first_last_and_empty(self):
        told = ask(OPEN, add([1, 2, 3]), add([]), add([0, 255]), get(0), get(1), get(2), get(0))
        self.assertEqual(told[4:], [[3, 1, 2, 3], [0], [2, 0, 255], [3, 1, 2, 3]])

    def test_number_not_as_told(self):
        for entry in (-1, -2, -3, 2, 3, LOWEST, HIGHEST):
            self.assertEqual(ask(OPEN, add([1]), add([2]), get(entry), get(1))[3:], [[-2], [1, 2]])


class NoList(unittest.TestCase):
    def test_minus_7_without_a_list(self):
        for call in (add([]), add([1, 2]), get(0), root(0), way(1, 0), grown(1, 1)):
            self.assertEqual(ask(call), [[-7]])

    def test_minus_7_ahead_of_minus_2(self):
        wrong = [bad_add(-1), bad_add(4097), get(-1), get(HIGHEST), root(-1), root(HIGHEST)]
        wrong += [way(0, 0), way(1, 1), way(LOWEST, HIGHEST), grown(0, 0), grown(1, 2), grown(HIGHEST, LOWEST)]
        self.assertEqual(ask(*wrong), [[-7]] * len(wrong))

    def test_a_refused_call_makes_no_list(self):
        told = ask(add([1]), get(0), OPEN, get(0), add([2]), get(0))
        self.assertEqual(told, [[-7], [-7], [0], [-2], [0], [1, 2]])

    def test_isin_makes_no_list(self):
        same = leaf(b"")
        self.assertEqual(ask(bad_isin(1, 0, 0, same, same), root(0)), [[1], [-7]])


if __name__ == "__main__":
    unittest.main()
