"""Calls 1 to 3, 9 and 13: open, add, get, find, count; and what holds for all that need a list."""

import unittest

from grownlist.entries import GrownList, answer_to
from helper import COUNT, HIGHEST, LOWEST, OPEN, add, ask, bad_add, bad_isin, changed, find, get, grown, leaf, root
from helper import sha, some_entries, way

# More than 40 calls, or more bytes than one list of calls holds, are needed to fill a list: so these tests go
# call by call, with the object that answers() has for its calls.


def fresh():
    kept = GrownList()
    answer_to(kept, 1, [])
    return kept


def put(kept, entry):
    return answer_to(kept, 2, [len(entry)] + entry)


def seen(kept, count):
    """All that can be asked of a list with so many entries."""
    entries = [answer_to(kept, 3, [i]) for i in range(count)]
    past = [answer_to(kept, 4, [count]), answer_to(kept, 4, [count + 1]), answer_to(kept, 3, [count])]
    return entries + past + [answer_to(kept, 13, [])]


class Open(unittest.TestCase):
    def test_answers_0(self):
        self.assertEqual(ask(OPEN), [[0]])

    def test_begins_without_entries(self):
        self.assertEqual(ask(OPEN, get(0), root(1), root(0)), [[0], [-2], [-2], [0] + list(sha(b""))])

    def test_begins_again(self):
        told = ask(OPEN, add([1]), add([2]), OPEN, get(0), get(1), root(1), way(1, 0), grown(1, 1), add([3]), get(0))
        self.assertEqual(told, [[0], [0], [1], [0], [-2], [-2], [-2], [-2], [-2], [0], [1, 3]])

    def test_begins_again_with_room_for_all_bytes(self):
        kept = fresh()
        for round_number in range(2):
            for i in range(8):
                self.assertEqual(put(kept, [i] * 4096), [i])
            self.assertEqual(put(kept, [0]), [-5])
            self.assertEqual(answer_to(kept, 1, []), [0])


class Add(unittest.TestCase):
    def test_answers_its_number(self):
        entries = [[i] * i for i in range(39)]
        told = ask(OPEN, *[add(entry) for entry in entries])
        self.assertEqual(told, [[0]] + [[i] for i in range(39)])

    def test_lengths(self):
        longest = [i % 256 for i in range(4096)]
        told = ask(OPEN, add([]), add([255]), add(longest), get(0), get(1), get(2))
        self.assertEqual(told, [[0], [0], [1], [2], [0], [1, 255], [4096] + longest])

    def test_equal_entries_are_two(self):
        self.assertEqual(ask(OPEN, add([5]), add([5]), get(1)), [[0], [0], [1], [1, 5]])

    def test_n_not_as_told(self):
        for n in (-1, 4097, LOWEST, HIGHEST):
            told = ask(OPEN, add([9]), root(1), bad_add(n), get(0), get(1), root(1), root(2), add([8]), get(1))
            self.assertEqual(told[3:6], [[-2], [1, 9], [-2]])
            self.assertEqual(told[6], told[2])
            self.assertEqual(told[7:], [[-2], [1], [1, 8]])

    def test_the_257th_entry(self):
        kept = fresh()
        for i in range(256):
            self.assertEqual(put(kept, [i]), [i])
        before = seen(kept, 256)
        self.assertEqual(put(kept, [1]), [-5])
        self.assertEqual(put(kept, []), [-5])
        self.assertEqual(seen(kept, 256), before)
        self.assertEqual(answer_to(kept, 3, [255]), [1, 255])

    def test_bytes_together(self):
        kept = fresh()
        for i in range(7):
            put(kept, [i] * 4096)
        put(kept, [7] * 4095)
        before = seen(kept, 8)
        self.assertEqual(put(kept, [1, 2]), [-5])
        self.assertEqual(put(kept, [1] * 4096), [-5])
        self.assertEqual(seen(kept, 8), before)
        self.assertEqual(put(kept, [1]), [8])
        self.assertEqual(put(kept, [1]), [-5])
        self.assertEqual(put(kept, []), [9])
        self.assertEqual(answer_to(kept, 3, [8]), [1, 1])

    def test_minus_2_ahead_of_minus_5(self):
        kept = fresh()
        for i in range(256):
            put(kept, [])
        self.assertEqual(answer_to(kept, 2, [-1]), [-2])
        self.assertEqual(answer_to(kept, 2, [4097]), [-2])
        other = fresh()
        for i in range(8):
            put(other, [0] * 4096)
        self.assertEqual(answer_to(other, 2, [4097]), [-2])
        self.assertEqual(answer_to(other, 2, [HIGHEST]), [-2])


class Get(unittest.TestCase):
    def test_first_last_and_empty(self):
        told = ask(OPEN, add([1, 2, 3]), add([]), add([0, 255]), get(0), get(1), get(2), get(0))
        self.assertEqual(told[4:], [[3, 1, 2, 3], [0], [2, 0, 255], [3, 1, 2, 3]])

    def test_number_not_as_told(self):
        for entry in (-1, -2, -3, 2, 3, LOWEST, HIGHEST):
            self.assertEqual(ask(OPEN, add([1]), add([2]), get(entry), get(1))[3:], [[-2], [1, 2]])


class Find(unittest.TestCase):
    def test_each_entry(self):
        entries = some_entries(19)
        told = ask(OPEN, *[add(entry) for entry in entries], *[find(leaf(entry)) for entry in entries])
        self.assertEqual(told[20:], [[i] for i in range(19)])

    def test_the_first_of_two_that_are_the_same(self):
        told = ask(OPEN, add([1]), add([5]), add([2]), add([5]), find(leaf([5])), find(leaf([2])))
        self.assertEqual(told[5:], [[1], [2]])

    def test_an_empty_entry(self):
        told = ask(OPEN, add([1]), find(leaf([])), add([]), add([]), find(leaf([])))
        self.assertEqual(told, [[0], [0], [-1], [1], [2], [1]])

    def test_none(self):
        calls = [OPEN, find(leaf([1])), add([1]), add([2, 3]), find(leaf([3])), find(leaf([2, 3, 0])), find(bytes(32))]
        self.assertEqual(ask(*calls), [[0], [-1], [0], [1], [-1], [-1], [-1]])

    def test_a_leaf_that_differs_in_any_one_byte(self):
        wanted = leaf([1, 2])
        told = ask(OPEN, add([1, 2]), find(wanted), *[find(changed(wanted, at)) for at in range(32)])
        self.assertEqual(told[2:], [[0]] + [[-1]] * 32)

    def test_roots_and_plain_digests_are_no_leaves(self):
        begun = [OPEN, add([1]), add([2])]
        told = ask(*begun, root(2), root(0))
        both, none = bytes(told[3][1:]), bytes(told[4][1:])
        self.assertEqual(ask(*begun, find(both), find(none), find(sha([1])))[3:], [[-1]] * 3)

    def test_not_among_the_entries_of_before(self):
        told = ask(OPEN, add([1]), add([2]), OPEN, find(leaf([1])), find(leaf([2])), add([2]), find(leaf([2])))
        self.assertEqual(told[4:], [[-1], [-1], [0], [0]])

    def test_what_was_refused_is_not_found(self):
        kept = fresh()
        for i in range(256):
            put(kept, [i])
        put(kept, [3, 3])
        self.assertEqual(answer_to(kept, 9, list(leaf([3, 3]))), [-1])
        self.assertEqual(answer_to(kept, 9, list(leaf([0]))), [0])
        self.assertEqual(answer_to(kept, 9, list(leaf([255]))), [255])

    def test_changes_nothing(self):
        told = ask(OPEN, add([1]), root(1), find(leaf([1])), find(leaf([2])), root(1), COUNT)
        self.assertEqual(told[5:], [told[2], [1, 1]])


class Count(unittest.TestCase):
    def test_no_entries(self):
        self.assertEqual(ask(OPEN, COUNT, COUNT), [[0], [0, 0], [0, 0]])

    def test_after_adds(self):
        told = ask(OPEN, add([]), COUNT, add([1, 2, 3]), COUNT, add([]), COUNT, add([1, 2, 3]), COUNT, add([0]), COUNT)
        self.assertEqual(told[2::2], [[1, 0], [2, 3], [3, 3], [4, 6], [5, 7]])

    def test_long_entries(self):
        self.assertEqual(ask(OPEN, add([1] * 4096), COUNT, add([2] * 4095), COUNT)[2::2], [[1, 4096], [2, 8191]])

    def test_after_a_refused_add(self):
        told = ask(OPEN, add([1, 2]), bad_add(-1), COUNT, bad_add(4097), COUNT, bad_add(HIGHEST), COUNT, add([]), COUNT)
        self.assertEqual(told[3::2], [[1, 2], [1, 2], [1, 2], [2, 2]])

    def test_of_the_most_entries(self):
        kept = fresh()
        for i in range(256):
            put(kept, [i] * 2)
        self.assertEqual(answer_to(kept, 13, []), [256, 512])
        self.assertEqual(put(kept, [1]), [-5])
        self.assertEqual(answer_to(kept, 13, []), [256, 512])

    def test_of_the_most_bytes(self):
        kept = fresh()
        for i in range(8):
            put(kept, [i] * 4096)
        self.assertEqual(answer_to(kept, 13, []), [8, 32768])
        self.assertEqual(put(kept, [1]), [-5])
        self.assertEqual(answer_to(kept, 13, []), [8, 32768])
        put(kept, [])
        self.assertEqual(answer_to(kept, 13, []), [9, 32768])

    def test_after_open_came_again(self):
        self.assertEqual(ask(OPEN, add([1]), OPEN, COUNT, add([2, 3]), COUNT)[3:], [[0, 0], [0], [1, 2]])


class NoList(unittest.TestCase):
    def test_minus_7_without_a_list(self):
        for call in (add([]), add([1, 2]), get(0), root(0), way(1, 0), grown(1, 1), find(leaf([])), COUNT):
            self.assertEqual(ask(call), [[-7]])

    def test_minus_7_ahead_of_minus_2(self):
        wrong = [bad_add(-1), bad_add(4097), get(-1), get(HIGHEST), root(-1), root(HIGHEST)]
        wrong += [way(0, 0), way(1, 1), way(LOWEST, HIGHEST), grown(0, 0), grown(1, 2), grown(HIGHEST, LOWEST)]
        self.assertEqual(ask(*wrong), [[-7]] * len(wrong))

    def test_a_refused_call_makes_no_list(self):
        told = ask(add([1]), get(0), find(leaf([1])), COUNT, OPEN, get(0), COUNT, find(leaf([1])), add([2]), get(0))
        self.assertEqual(told, [[-7], [-7], [-7], [-7], [0], [-2], [0, 0], [-1], [0], [1, 2]])

    def test_isin_makes_no_list(self):
        same = leaf(b"")
        self.assertEqual(ask(bad_isin(1, 0, 0, same, same), root(0)), [[1], [-7]])


if __name__ == "__main__":
    unittest.main()
