"""'The interface': how calls stand in the list, what is given back, and that nothing is changed or kept."""

import itertools
import unittest

from tests.helper import TOP, ask, best, entry, fill, find, flat, near, put, run, take, undo, way, with_word
from translations.memory import answers

LINE = [
    0, 7, 8, 9, 3, 1, 2, 3, 2, 50, 51,
    0, 7, 8, 9, 2, 1, 2, 1, 60,
    2, 60, 7, 8, 9, 3, 1, 2, 3,
    3, 7, 8, 0, 2, 1, 2,
    4, 1, 2, 2, 3,
    5, 2,
    1, 1,
    1, 1,
    4, 2, 0,
    6, 60, 3, 18, 7, 8, 9, 2, 1, 2, 7, 8, 9, 1, 4, 7, 8, 9, 3, 1, 2, 3,
    6, 0, 0, 0,
    7, 2,
    7, 1,
    8,
    9,
    7, 1,
    9,
    9,
    9,
    8,
    10, 0, 0,
    10, 3, 1, 2, 3, 2, 1, 2,
    6, 103, 1, 5, 7, 8, 9, 1, 4,
]
ANSWERS = [
    2, 1, 1,
    2, 2, 2,
    5, 2, 102, 1, 66, 2,
    4, 99, 2, 1, 60,
    5, 1, 3, 2, 0, 0,
    7, 2, 1, 1, 0, 2, 1, 0,
    1, 1,
    1, -2,
    4, 2, 2, 2, 2,
    7, 2, 102, 2, 0, 0, 66, 2,
    1, 0,
    8, 7, 8, 9, 2, 1, 2, 1, 60,
    1, -2,
    3, 1, 1, 3,
    1, 2,
    10, 7, 8, 9, 3, 1, 2, 3, 2, 50, 51,
    1, 1,
    1, 0,
    1, -7,
    3, 0, 0, 3,
    2, 0, 100,
    2, 1, 66,
    1, -1,
]


class Interface(unittest.TestCase):
    def test_a_line_number_by_number(self):
        self.assertEqual(answers(LINE), ANSWERS)

    def test_each_call_may_be_the_first(self):
        self.assertEqual(answers([0, 0, 0, 0, 1, 0, 1, 0]), [2, 1, 1])
        self.assertEqual(answers([1, 0]), [1, -2])
        self.assertEqual(answers([2, 0, 0, 0, 0, 1, 0]), [1, 0])
        self.assertEqual(answers([3, 0, 0, 0, 1, 0]), [1, -6])
        self.assertEqual(answers([4, 0, 0]), [1, -2])
        self.assertEqual(answers([5, 0]), [1, 0])
        self.assertEqual(answers([6, 0, 1, 5, 0, 0, 0, 1, 0]), [3, 0, 0, 0])
        self.assertEqual(answers([7, 0]), [1, -2])
        self.assertEqual(answers([8]), [3, 0, 0, 1])
        self.assertEqual(answers([9]), [1, -7])
        self.assertEqual(answers([10, 0, 0]), [2, 0, 100])

    def test_rows_without_numbers_and_with_25(self):
        self.assertEqual(answers([0, 0, 0, 0, 0, 0, 5, 1]), [1, -1, 1, 0])
        self.assertEqual(answers([0, 0, 0, 0, 25] + [5] * 25 + [25] + [5] * 25 + [5, 5]), [1, -1, 1, 0])
        self.assertEqual(answers([2, 0, 0, 0, 0, 25] + [5] * 25 + [3, 0, 0, 0, 0, 5, 5]), [1, -1, 1, -1, 1, 0])
        self.assertEqual(answers([10, 25] + [9] * 25 + [25] + [9] * 25 + [9]), [1, -1, 1, -7])
        self.assertEqual(answers([10, 0, 25] + [9] * 25 + [10, 25] + [9] * 25 + [0, 9]), [1, -1, 1, -1, 1, -7])

    def test_asks_without_numbers_and_with_300(self):
        self.assertEqual(answers([6, 0, 0, 0, 8]), [1, 0, 3, 0, 0, 1])
        self.assertEqual(answers([6, 0, 75, 300] + [0] * 300 + [8]), [1, -1, 3, 0, 0, 1])
        self.assertEqual(answers([6, 0, 12, 300] + ([8, 8, 8, 21] + [8] * 21) * 12 + [8]), [1, -1, 3, 0, 0, 1])

    def test_the_longest_list(self):
        longest = [6, 102, 75, 300] + [TOP, TOP, TOP, 0] * 75
        self.assertEqual(len(longest * 30), 9120)
        self.assertEqual(answers(longest * 30), [1, -1] * 30)

    def test_whole_numbers_in_a_list(self):
        given = answers(LINE)
        self.assertIs(type(given), list)
        self.assertEqual({type(number) for number in given}, {int})

    def test_only_refusals_are_below_0(self):
        right = (put(ask([1]), [2]), best(ask([4])), way(1, []), fill(0, [ask([4])]), entry(1), near([], [1]))
        wrong = (put(ask([]), [2]), take(5), way(9, []), fill(0, [ask([])]), entry(5), near([], [TOP]))
        for answer in run(*right, *wrong, undo(), undo()):
            self.assertTrue(min(answer) >= 0 or (len(answer) == 1 and answer[0] < 0))

    def test_what_is_handed_in_is_not_changed(self):
        handed_in = list(LINE)
        answers(handed_in)
        self.assertEqual(handed_in, LINE)

    def test_what_is_handed_in_is_never_written_to(self):
        class ReadOnly(list):
            def refuse(self, *_):
                raise AssertionError("the list was changed")

            append = extend = insert = pop = remove = reverse = sort = clear = refuse
            __setitem__ = __delitem__ = __iadd__ = __imul__ = refuse

        self.assertEqual(answers(ReadOnly(LINE)), ANSWERS)

    def test_what_is_given_back_is_apart_from_what_is_kept(self):
        first = answers(LINE)
        first.clear()
        self.assertEqual(answers(LINE), ANSWERS)

    def test_nothing_is_kept(self):
        self.assertEqual(answers(LINE), answers(LINE))
        for _ in range(3):
            self.assertEqual(answers([0, 0, 0, 0, 1, 0, 1, 0]), [2, 1, 1])
            self.assertEqual(answers([3, 0, 0, 0, 1, 0]), [1, -6])

    def test_nothing_is_kept_after_refusals(self):
        answers(flat([put(ask([1]), [2]), put(ask([]), [2]), take(7)]))
        self.assertEqual(run(take(1), with_word(1), undo()), [[-2], [0], [-7]])


class Orders(unittest.TestCase):
    def test_every_order_of_some_calls(self):
        calls = {
            "put": put(ask([1, 2]), [5]), "again": put(ask([1, 2]), [6]), "take": take(1),
            "find": find(100, ask([1, 2])), "best": best(ask([1])), "with": with_word(5),
        }
        for order in itertools.permutations(calls):
            told = run(*[calls[name] for name in order])
            self.assertEqual(told, self.expected(order), order)

    def expected(self, order):
        """At most one entry is there at any time: its number and its translation's word, or None."""
        number, entry, told = 0, None, []
        for name in order:
            if name in ("put", "again"):
                number += 1
                entry = (number, 5 if name == "put" else 6)
                told.append([number, 1])
            elif name == "take":
                gone = entry is not None and entry[0] == 1
                told.append([0] if gone else [-2])
                entry = None if gone else entry
            elif name == "find":
                told.append([0] if entry is None else [1, 102, entry[0]])
            elif name == "best":
                told.append([-6] if entry is None else [50, entry[0], 1, entry[1]])
            else:
                told.append([1, entry[0], 0, 1] if entry is not None and entry[1] == 5 else [0])
        return told


if __name__ == "__main__":
    unittest.main()
