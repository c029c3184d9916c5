"""What the least patch of one text to another costs."""

import functools
import itertools
import unittest

from lineedits.patches import how_many_in_common, patch_cost
from tests.helper import apply, dry, load, told, undo


def in_common(first, second):
    """By trying each choice of lines of the first text, the greatest first."""
    for size in range(len(first), -1, -1):
        for choice in itertools.combinations(first, size):
            left = iter(second)
            if all(line in left for line in choice):
                return size


@functools.lru_cache(maxsize=None)
def in_common_by_cases(first, second):
    """The same of two tuples, case by case: quick enough for long texts."""
    if not first or not second:
        return 0
    if first[0] == second[0]:
        return 1 + in_common_by_cases(first[1:], second[1:])
    return max(in_common_by_cases(first[1:], second), in_common_by_cases(first, second[1:]))


def cost_as_told(first, second, common=in_common_by_cases):
    """What the patch costs that is made just as the document tells it."""
    first, second, cost = tuple(first), tuple(second), 0
    while first and second:
        if first[0] == second[0]:
            first, second = first[1:], second[1:]
        elif common(first[1:], second) >= common(first, second[1:]):
            first, cost = first[1:], cost + 1
        else:
            second, cost = second[1:], cost + 1
    return cost + len(first) + len(second)


class PatchTest(unittest.TestCase):
    def costs(self, first, second, cost):
        with self.subTest(first=first, second=second):
            self.assertEqual(patch_cost(list(first), list(second)), cost)
            self.assertEqual(patch_cost(list(second), list(first)), cost)

    def test_texts_without_lines(self):
        self.costs("", "", 0)
        self.costs("abc", "", 3)

    def test_the_same_text(self):
        self.costs("abcab", "abcab", 0)

    def test_texts_with_nothing_in_common(self):
        self.costs("ab", "cde", 5)

    def test_lines_that_stand_several_times(self):
        self.costs("aaa", "a", 2)
        self.costs("abab", "baba", 2)
        self.costs("aabb", "bbaa", 4)
        self.costs("abcabba", "cbabac", 5)

    def test_whole_lines_are_held_against_each_other(self):
        self.assertEqual(patch_cost(["ab", ""], ["a", "b", ""]), 3)

    def test_as_the_document_tells_it(self):
        texts = [list(letters) for size in range(5) for letters in itertools.product("abc", repeat=size)]
        for first in texts[::2]:
            for second in texts[::3]:
                self.assertEqual(how_many_in_common(first, second), in_common(first, second))
                self.assertEqual(patch_cost(first, second), cost_as_told(first, second, in_common))
                self.assertEqual(patch_cost(first, second), cost_as_told(first, second))


class DryCostTest(unittest.TestCase):
    def costs(self, lines, script, cost):
        with self.subTest(lines=lines, script=script):
            self.assertEqual(told(load(*lines), dry(script))[1][7], cost)

    def test_nothing(self):
        self.costs("abc", "", 0)
        self.costs("", "before x ;", 0)

    def test_lines_taken_out_and_put_in(self):
        self.costs("abc", "if is b delete ;", 1)
        self.costs("abc", "if is b after x ;", 1)
        self.costs("abc", "if is b change x ;", 2)
        self.costs("abc", "delete ;", 3)

    def test_the_patch_may_be_less_than_what_the_step_does(self):
        self.costs("ab", "if is a after a ; if is a delete ;", 0)
        self.costs("aab", "trade ;", 2)
        self.costs("aaa", "if line 1 delete ; if last after a ;", 0)
        self.costs("abab", "if line 1 delete ; if last after a ;", 2)

    def test_24_lines(self):
        self.costs("ab" * 12, "if is a delete ;", 12)
        self.costs("a" * 24, "change b ;", 48)
        self.costs("a" * 12, "after a ;", 12)

    def test_it_is_held_against_the_text_as_it_is_now(self):
        self.assertEqual(told(load("a"), apply("after b ;"), dry("if is b delete ;"), undo(), dry("after b ;"))[2::2],
                         [[1, 1, 1, 0, 1, 0, 0, 1], [1, 2, 1, 0, 0, 1, 0, 1]])


if __name__ == "__main__":
    unittest.main()
