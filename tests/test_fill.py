"""fill: what it tells of each ask, the row behind the promises, and promise 3 as far as it speaks of fill."""

import unittest

from tests.helper import TOP, WRONG_ASKS, ask, best, count, fill, find, last, put, run, take, undo, with_word
from translations.memory import answers

ENTRIES = (
    put(ask([1, 2, 3, 4]), [51]), put(ask([1, 2, 3, 4], 8), [52]), put(ask([1, 2, 3, 9]), [53]),
    put(ask([7, 7]), [54]),
)


class Fill(unittest.TestCase):
    def test_each_ask_in_its_order(self):
        asks = [ask([7, 7]), ask([1, 2, 3, 4]), ask([1, 2, 3, 9], 8, 8), ask([1, 2, 3, 4], 8)]
        self.assertEqual(last(*ENTRIES, fill(50, asks)), [4, 102, 4, 102, 1, 100, 3, 102, 2])
        self.assertEqual(last(*ENTRIES, fill(50, asks[::-1])), [4, 102, 2, 100, 3, 102, 1, 102, 4])

    def test_the_same_ask_twice(self):
        asks = [ask([7, 7]), ask([1, 2, 3, 4]), ask([7, 7])]
        self.assertEqual(last(*ENTRIES, fill(0, asks)), [3, 102, 4, 102, 1, 102, 4])

    def test_the_first_that_is_found(self):
        self.assertEqual(last(*ENTRIES, fill(0, [ask([1, 2, 3, 5])])), [1, 75, 3])
        self.assertEqual(last(*ENTRIES, take(3), fill(0, [ask([1, 2, 3, 5])])), [1, 75, 2])
        self.assertEqual(last(*ENTRIES, fill(0, [ask([1, 2, 3, 4], client=9)])), [1, 99, 1])

    def test_of_the_same_translation_the_first(self):
        entries = [put(ask([1, 2]), [5]), put(ask([1, 3]), [5])]
        self.assertEqual(last(*entries, fill(0, [ask([1, 2]), ask([1, 9]), ask([1, 3])])), [3, 102, 1, 50, 2, 102, 2])

    def test_no_asks(self):
        for least in (0, 102):
            self.assertEqual(run(fill(least, [])), [[0]])
            self.assertEqual(last(*ENTRIES, fill(least, [])), [0])

    def test_one_ask(self):
        self.assertEqual(last(*ENTRIES, fill(100, [ask([7, 7])])), [1, 102, 4])
        self.assertEqual(last(*ENTRIES, fill(100, [ask([7])])), [0, 0, 0])

    def test_ten_asks(self):
        asks = [ask([1, 2, 3, 4]), ask([5])] * 5
        self.assertEqual(last(*ENTRIES, fill(1, asks)), [5] + [102, 1, 0, 0] * 5)
        longest = [ask([9999] * 20, 9999, 9999, 99)] * 10
        self.assertEqual(last(put(longest[0], [0]), fill(102, longest)), [10] + [102, 1] * 10)

    def test_nothing_is_found(self):
        asks = [ask([5]), ask([7, 7]), ask([1, 2, 3])]
        self.assertEqual(last(*ENTRIES, fill(76, asks)), [1, 0, 0, 102, 4, 0, 0])
        self.assertEqual(last(*ENTRIES, fill(75, asks)), [2, 0, 0, 102, 4, 75, 3])

    def test_an_empty_memory(self):
        for least in (0, 1, 102):
            self.assertEqual(run(fill(least, [ask([1]), ask([2])])), [[0, 0, 0, 0, 0]])

    def test_least_score_of_102(self):
        asks = [ask([1, 2, 3, 4]), ask([1, 2, 3, 4], 8, 8), ask([1, 2, 3, 4], 9, 9), ask([7, 7], client=9)]
        self.assertEqual(last(*ENTRIES, fill(102, asks)), [1, 102, 1, 0, 0, 0, 0, 0, 0])
        self.assertEqual(last(*ENTRIES, fill(101, asks)), [2, 102, 1, 101, 2, 0, 0, 0, 0])

    def test_a_score_of_0_is_told_with_its_number_but_not_counted(self):
        self.assertEqual(last(*ENTRIES, fill(0, [ask([5])])), [0, 0, 4])
        self.assertEqual(last(*ENTRIES, fill(0, [ask([5]), ask([7, 7]), ask([6])])), [1, 0, 4, 102, 4, 0, 4])
        self.assertEqual(last(*ENTRIES, fill(1, [ask([5]), ask([7, 7]), ask([6])])), [1, 0, 0, 102, 4, 0, 0])

    def test_a_score_of_0_for_the_sake_of_the_client(self):
        entry = put(ask(range(20), client=1), [5])
        asks = [ask([0] * 20, client=client) for client in (1, 2)] + [ask([99] * 20, client=2)]
        self.assertEqual(last(entry, fill(0, asks)), [2, 5, 1, 2, 1, 0, 1])

    def test_a_score_of_0_counts_as_found_in_find(self):
        self.assertEqual(run(put(ask([1]), [5]), find(0, ask([2])), fill(0, [ask([2])]))[1:], [[1, 0, 1], [0, 0, 1]])

    def test_the_memory_is_not_changed(self):
        told = run(put(ask([1]), [5]), count(), fill(0, [ask([2])] * 10), count(), with_word(2), undo(), undo())
        self.assertEqual(told[1:], [[1, 1, 2], [0] + [0, 1] * 10, [1, 1, 2], [0], [0], [-7]])

    def test_after_put_instead_take_and_undo(self):
        asks = fill(100, [ask([1])])
        told = run(asks, put(ask([1]), [5]), asks, put(ask([1]), [6]), asks, undo(), asks, take(1), asks, undo(), asks)
        self.assertEqual(told[::2], [[0, 0, 0], [1, 102, 1], [1, 102, 2], [1, 102, 1], [0, 0, 0], [1, 102, 1]])


class Refused(unittest.TestCase):
    def refused(self, call):
        told = run(put(ask([1]), [5]), call, count(), best(ask([1])), put(ask([2]), [6]), undo(), undo(), undo())
        self.assertEqual(told, [[1, 1], [-1], [1, 1, 2], [102, 1, 1, 5], [2, 2], [1], [0], [-7]], call)
        self.assertEqual(run(call, count()), [[-1], [0, 0, 1]])

    def test_edges_are_not_refused(self):
        for words in ([0], [9999], [9999] * 20):
            self.assertEqual(last(put(ask([5]), [6]), fill(0, [ask(words, 9999, 9999, 99)])), [0, 0, 1])

    def test_each_wrong_ask(self):
        for an_ask in WRONG_ASKS:
            self.refused(fill(0, [an_ask]))

    def test_one_wrong_ask_among_right_ones(self):
        for an_ask in WRONG_ASKS:
            for place in (0, 1, 5, 9):
                asks = [ask([1])] * 10
                asks[place] = an_ask
                self.refused(fill(0, asks))

    def test_least_score_above_102(self):
        for least in (103, 10000, TOP):
            for asks in ([], [ask([1])], [ask([1])] * 10):
                self.refused(fill(least, asks))

    def test_more_than_ten_asks(self):
        for many in (11, 12, 60):
            self.refused(fill(0, [ask([1])] * many))
        self.refused(fill(0, [ask(range(20))] * 11))

    def test_several_causes_at_once(self):
        self.refused(fill(103, [ask([1])] * 11))
        self.refused(fill(103, [ask([])]))
        self.refused(fill(0, [ask([])] * 75))
        self.refused(fill(TOP, [ask([1], TOP, TOP, TOP)] * 11))

    def test_an_ask_as_long_as_the_row_may_be(self):
        self.refused(fill(0, [ask([1] * 296)]))
        self.assertEqual(answers([6, 0, 1, 300, 0, 0, 0, 296] + [6] * 296 + [8]), [1, -1, 3, 0, 0, 1])


if __name__ == "__main__":
    unittest.main()
