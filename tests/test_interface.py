"""How calls are handed in to answers(), and what holds for the whole program."""

import ast
import contextlib
import copy
import io
import pathlib
import unittest

from grownlist.entries import answers
from helper import OPEN, add, ask, bad_add, get, grown, isin, leaf, plain_root, root, sha, way

PACKAGE = pathlib.Path(__file__).resolve().parent.parent / "grownlist"


class Unchangeable(list):
    """A list that fails as soon as somebody changes it, be it for a while."""

    def refuse(self, *given):
        raise AssertionError("what was handed in is changed")

    __setitem__ = __delitem__ = __iadd__ = __imul__ = refuse
    append = extend = insert = pop = remove = clear = reverse = sort = refuse


def one_list(*calls):
    return [number for call in calls for number in call]


SOME = one_list(
    get(0), OPEN, add([1, 2]), add([]), bad_add(-1), get(0), get(7), root(2), way(2, 1), grown(2, 1),
    isin(1, 0, leaf([9]), leaf([9]), []), isin(2, 1, plain_root([leaf([1, 2]), leaf([])]), leaf([]), [leaf([1, 2])]),
)


class Form(unittest.TestCase):
    def test_answers_one_behind_another_with_their_counts(self):
        first, second = list(leaf([1, 2])), list(leaf([]))
        both = list(plain_root([leaf([1, 2]), leaf([])]))
        told = [1, -7, 1, 0, 1, 0, 1, 1, 1, -2, 3, 2, 1, 2, 1, -2, 33, 0] + both
        told += [33, 1] + first + [33, 1] + second + [1, 1, 1, 1]
        self.assertEqual(answers(list(SOME)), told)

    def test_an_empty_entry_and_no_digests(self):
        handed = one_list(OPEN, add([]), get(0), way(1, 0), grown(1, 1))
        self.assertEqual(answers(handed), [1, 0, 1, 0, 1, 0, 1, 0, 1, 0])

    def test_one_call(self):
        self.assertEqual(answers([1, 0, 0]), [1, 0])
        self.assertEqual(answers([4, 1, 0, 0]), [1, -7])

    def test_whole_numbers_alone(self):
        told = answers(list(SOME))
        self.assertIs(type(told), list)
        self.assertEqual({type(number) for number in told}, {int})

    def test_forty_calls(self):
        entries = [[i] for i in range(38)]
        told = ask(OPEN, *[add(entry) for entry in entries], root(38))
        self.assertEqual(len(told), 40)
        self.assertEqual(told[:39], [[0]] + [[i] for i in range(38)])
        self.assertEqual(told[39], [0] + list(plain_root([leaf(entry) for entry in entries])))

    def test_as_many_numbers_as_may_be_handed_in(self):
        entries = [[i] * 4096 for i in range(7)] + [[200] * (3072 - 12)]
        calls = [OPEN] + [add(entry) for entry in entries] + [root(8), get(7)]
        self.assertEqual(len(one_list(*calls)), 31775)
        told = ask(*calls)
        self.assertEqual(told[:9], [[0]] + [[i] for i in range(8)])
        self.assertEqual(told[9], [0] + list(plain_root([leaf(entry) for entry in entries])))
        self.assertEqual(told[10], [3060] + entries[7])

    def test_many_long_answers(self):
        longest = [i % 256 for i in range(4096)]
        told = ask(OPEN, add(longest), *[get(0)] * 38)
        self.assertEqual(told[2:], [[4096] + longest] * 38)


class Whole(unittest.TestCase):
    def test_what_is_handed_in_is_not_changed(self):
        handed = Unchangeable(SOME)
        before = copy.copy(SOME)
        self.assertEqual(answers(handed), answers(list(SOME)))
        self.assertEqual(list(handed), before)

    def test_what_is_given_back_is_the_askers_own(self):
        handed = one_list(OPEN, add([4, 5]), get(0), root(1))
        told = answers(handed)
        wanted = list(told)
        told[5] = 99
        told.clear()
        self.assertEqual(answers(handed), wanted)

    def test_nothing_is_kept(self):
        first = answers(list(SOME))
        self.assertEqual(answers(one_list(root(0), get(0))), [1, -7, 1, -7])
        self.assertEqual(answers(one_list(OPEN, get(0), root(0))), [1, 0, 1, -2, 33, 0] + list(sha(b"")))
        self.assertEqual(answers(list(SOME)), first)

    def test_prints_nothing(self):
        with contextlib.redirect_stdout(io.StringIO()) as out, contextlib.redirect_stderr(io.StringIO()) as err:
            answers(list(SOME))
        self.assertEqual((out.getvalue(), err.getvalue()), ("", ""))

    def test_imports_and_reads_nothing(self):
        for path in sorted(PACKAGE.glob("*.py")):
            for node in ast.walk(ast.parse(path.read_text())):
                self.assertNotIsInstance(node, ast.Import, path)
                if isinstance(node, ast.ImportFrom):
                    self.assertTrue(node.module.startswith("grownlist."), path)
                if isinstance(node, ast.Name):
                    self.assertNotIn(node.id, ("open", "input", "print", "__import__", "eval", "exec"), path)


if __name__ == "__main__":
    unittest.main()
