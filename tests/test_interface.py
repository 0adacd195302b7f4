"""How calls are handed in to answers(), and what holds for the whole program."""

import ast
import contextlib
import copy
import io
import pathlib
import unittest

from grownlist.entries import answers
from helper import COUNT, OPEN, add, ask, bad_add, bad_derive, bad_goeson, bad_mark, derive, find, get, goeson, grown
from helper import isin, leaf, mark, plain_derived, plain_mark, plain_root, root, same, sha, some_entries, way

PACKAGE = pathlib.Path(__file__).resolve().parent.parent / "grownlist"


class Unchangeable(list):
    """A list that fails as soon as somebody changes it, be it for a while."""

    def refuse(self, *given):
        raise AssertionError("what was handed in is changed")

    __setitem__ = __delitem__ = __iadd__ = __imul__ = refuse
    append = extend = insert = pop = remove = clear = reverse = sort = refuse


def one_list(*calls):
    return [number for call in calls for number in call]


FIRST, SECOND = leaf([1, 2]), leaf([])
BOTH = plain_root([FIRST, SECOND])
SHORT, LONG = plain_mark(0, b"key", b"bytes"), plain_mark(1, b"", b"")

# Every call, and what it answers where it stands.
SOME_CALLS = (
    (get(0), [-7]),
    (find(FIRST), [-7]),
    (COUNT, [-7]),
    (mark(0, b"key", b"bytes"), [0, *SHORT]),
    (OPEN, [0]),
    (COUNT, [0, 0]),
    (add([1, 2]), [0]),
    (add([]), [1]),
    (bad_add(-1), [-2]),
    (COUNT, [2, 2]),
    (get(0), [2, 1, 2]),
    (get(7), [-2]),
    (root(2), [0, *BOTH]),
    (way(2, 1), [1, *FIRST]),
    (grown(2, 1), [1, *SECOND]),
    (isin(1, 0, SECOND, SECOND, []), [1]),
    (isin(2, 1, BOTH, SECOND, [FIRST]), [1]),
    (goeson(2, 1, BOTH, FIRST, [SECOND]), [1]),
    (goeson(2, 1, BOTH, FIRST, [FIRST]), [0]),
    (bad_goeson(2, 1, 19, BOTH, FIRST), [-2]),
    (find(SECOND), [1]),
    (find(BOTH), [-1]),
    (mark(1, b"", b""), [0, *LONG]),
    (bad_mark(2, 3, 0, b"key"), [-2]),
    (same(0, b"key", b"bytes", SHORT), [1]),
    (same(1, b"", b"", SHORT + bytes(12)), [0]),
    (derive(b"secret", b"purpose", 33), [33, *plain_derived(b"secret", b"purpose", 33)]),
    (derive(b"", b"", 0), [0]),
    (bad_derive(1, -1, 0, b"s"), [-2]),
    (get(1), [0]),
    (OPEN, [0]),
    (find(FIRST), [-1]),
    (COUNT, [0, 0]),
    (root(1), [-2]),
)
SOME = one_list(*[call for call, answer in SOME_CALLS])


class Form(unittest.TestCase):
    def test_answers_one_behind_another_with_their_counts(self):
        told = one_list(*[[len(answer)] + answer for call, answer in SOME_CALLS])
        self.assertEqual(answers(list(SOME)), told)

    def test_every_call_stands_there(self):
        self.assertEqual({call[0] for call, answer in SOME_CALLS}, set(range(1, 14)))

    def test_numbers_written_out(self):
        handed = [13, 0, 0, 1, 0, 0, 2, 3, 2, 104, 105, 0, 13, 0, 0, 12, 4, 0, 1, 0, 7, 0, 3, 1, 0, 0]
        self.assertEqual(answers(handed), [1, -7, 1, 0, 1, 0, 2, 1, 2, 1, 0, 3, 2, 104, 105])
        handed = [9, 32] + list(FIRST) + [0, 8, 67, 1, 1, 0] + list(FIRST) * 2 + [0, 10, 3, 2, 0, 0, 0]
        self.assertEqual(answers(handed), [1, -7, 1, 1, 1, -2])
        handed = [11, 23, 0, 0, 0] + [0] * 20 + [0, 11, 35, 3, 0, 0] + [0] * 32 + [0]
        self.assertEqual(answers(handed), [1, 0, 1, -2])

    def test_an_empty_entry_and_no_digests(self):
        handed = one_list(OPEN, add([]), get(0), way(1, 0), grown(1, 1))
        self.assertEqual(answers(handed), [1, 0, 1, 0, 1, 0, 1, 0, 1, 0])

    def test_one_call(self):
        self.assertEqual(answers([1, 0, 0]), [1, 0])
        self.assertEqual(answers([4, 1, 0, 0]), [1, -7])

    def test_whole_numbers_alone(self):
        told = answers(list(SOME))
        self.assertIs(type(told), list)
        self.assertEqual({type(number) for number in told}, {int})

    def test_forty_calls(self):
        entries = [[i] for i in range(38)]
        told = ask(OPEN, *[add(entry) for entry in entries], root(38))
        self.assertEqual(len(told), 40)
        self.assertEqual(told[:39], [[0]] + [[i] for i in range(38)])
        self.assertEqual(told[39], [0] + list(plain_root([leaf(entry) for entry in entries])))

    def test_as_many_numbers_as_may_be_handed_in(self):
        entries = [[i] * 4096 for i in range(7)] + [[200] * (3072 - 12)]
        calls = [OPEN] + [add(entry) for entry in entries] + [root(8), get(7)]
        self.assertEqual(len(one_list(*calls)), 31775)
        told = ask(*calls)
        self.assertEqual(told[:9], [[0]] + [[i] for i in range(8)])
        self.assertEqual(told[9], [0] + list(plain_root([leaf(entry) for entry in entries])))
        self.assertEqual(told[10], [3060] + entries[7])

    def test_forty_calls_of_all_kinds(self):
        entries = [bytes(entry) for entry in some_entries(12)]
        asked = []
        for i in range(9):
            key, data = entries[i], entries[i + 1]
            asked.append((find(leaf(key)), [i]))
            asked.append((derive(key, data, i), [i, *plain_derived(key, data, i)]))
            asked.append((mark(i % 2, key, data), [0, *plain_mark(i % 2, key, data)]))
        calls = [OPEN] + [add(entry) for entry in entries] + [call for call, answer in asked]
        self.assertEqual(len(calls), 40)
        told = ask(*calls)
        self.assertEqual(told, [[0]] + [[i] for i in range(12)] + [answer for call, answer in asked])

    def test_many_numbers_to_be_marked(self):
        key, data = bytes(range(256)), bytes(i * 7 % 256 for i in range(4096))
        calls = []
        for how in (0, 1, 0):
            calls += [mark(how, key, data), same(how, key, data, plain_mark(how, key, data))]
        calls += [add(data), derive(key, key, 1024), find(leaf(data)), OPEN, add(data[:860]), find(leaf(data[:860]))]
        self.assertEqual(len(one_list(*calls)), 31775)
        wanted = []
        for how in (0, 1, 0):
            wanted += [[0, *plain_mark(how, key, data)], [1]]
        wanted += [[-7], [1024, *plain_derived(key, key, 1024)], [-7], [0], [0], [0]]
        self.assertEqual(ask(*calls), wanted)

    def test_many_long_answers(self):
        longest = [i % 256 for i in range(4096)]
        told = ask(OPEN, add(longest), *[get(0)] * 38)
        self.assertEqual(told[2:], [[4096] + longest] * 38)


class Whole(unittest.TestCase):
    def test_what_is_handed_in_is_not_changed(self):
        handed = Unchangeable(SOME)
        before = copy.copy(SOME)
        self.assertEqual(answers(handed), answers(list(SOME)))
        self.assertEqual(list(handed), before)

    def test_what_is_given_back_is_the_askers_own(self):
        handed = one_list(OPEN, add([4, 5]), get(0), root(1))
        told = answers(handed)
        wanted = list(told)
        told[5] = 99
        told.clear()
        self.assertEqual(answers(handed), wanted)

    def test_nothing_is_kept(self):
        first = answers(list(SOME))
        self.assertEqual(answers(one_list(root(0), get(0), COUNT)), [1, -7, 1, -7, 1, -7])
        self.assertEqual(answers(one_list(OPEN, get(0), root(0))), [1, 0, 1, -2, 33, 0] + list(sha(b"")))
        self.assertEqual(answers(one_list(OPEN, find(FIRST), COUNT)), [1, 0, 1, -1, 2, 0, 0])
        self.assertEqual(answers(list(SOME)), first)

    def test_prints_nothing(self):
        with contextlib.redirect_stdout(io.StringIO()) as out, contextlib.redirect_stderr(io.StringIO()) as err:
            answers(list(SOME))
        self.assertEqual((out.getvalue(), err.getvalue()), ("", ""))

    def test_imports_and_reads_nothing(self):
        for path in sorted(PACKAGE.glob("*.py")):
            for node in ast.walk(ast.parse(path.read_text())):
                self.assertNotIsInstance(node, ast.Import, path)
                if isinstance(node, ast.ImportFrom):
                    self.assertTrue(node.module.startswith("grownlist."), path)
                if isinstance(node, ast.Name):
                    self.assertNotIn(node.id, ("open", "input", "print", "__import__", "eval", "exec"), path)


if __name__ == "__main__":
    unittest.main()
