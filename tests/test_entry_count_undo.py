"""entry, count and undo: what they answer, and promises 2 and 3 as far as they speak of them."""

import unittest

from tests.helper import (
    TOP, WRONG_ASKS, WRONG_SENTENCES, ask, best, count, entry, fill, find, last, near, put, run, take, undo, way,
    with_word,
)
from translations.entries import Ask
from translations.store import Store


class Entry(unittest.TestCase):
    def test_all_of_it(self):
        told = last(put(ask([1, 2, 3], 7, 8, 9), [50, 51]), entry(1))
        self.assertEqual(told, [7, 8, 9, 3, 1, 2, 3, 2, 50, 51])

    def test_edges(self):
        self.assertEqual(last(put(ask([0], 0, 0, 0), [0]), entry(1)), [0, 0, 0, 1, 0, 1, 0])
        told = last(put(ask([9999] * 20, 9999, 9999, 99), [9999] * 20), entry(1))
        self.assertEqual(told, [9999, 9999, 99, 20] + [9999] * 20 + [20] + [9999] * 20)

    def test_the_one_with_that_number(self):
        entries = [put(ask([word]), [word + 50]) for word in range(3)]
        for number in (1, 2, 3):
            self.assertEqual(last(*entries, entry(number)), [1, 2, 3, 1, number - 1, 1, number + 49])

    def test_after_take(self):
        told = run(put(ask([1]), [5]), put(ask([2]), [6]), take(1), entry(1), entry(2))
        self.assertEqual(told[3:], [[-2], [1, 2, 3, 1, 2, 1, 6]])

    def test_after_put_instead(self):
        told = run(put(ask([1]), [5]), put(ask([1]), [6]), entry(1), entry(2))
        self.assertEqual(told[2:], [[-2], [1, 2, 3, 1, 1, 1, 6]])

    def test_after_undo(self):
        told = run(put(ask([1]), [5]), put(ask([1]), [6]), undo(), entry(1), entry(2), undo(), entry(1))
        self.assertEqual(told[2:], [[1], [1, 2, 3, 1, 1, 1, 5], [-2], [0], [-2]])

    def test_no_such_entry(self):
        for number in (0, 2, 10000, TOP):
            self.assertEqual(run(put(ask([1]), [5]), entry(number), count()), [[1, 1], [-2], [1, 1, 2]])
            self.assertEqual(run(entry(number)), [[-2]])
        self.assertEqual(run(entry(1)), [[-2]])


class Count(unittest.TestCase):
    def test_an_empty_memory(self):
        self.assertEqual(run(count(), count()), [[0, 0, 1], [0, 0, 1]])

    def test_after_put(self):
        told = run(put(ask([1]), [5]), count(), put(ask([2]), [5]), count(), put(ask([3]), [6]), count())
        self.assertEqual(told[1::2], [[1, 1, 2], [2, 2, 3], [3, 3, 4]])

    def test_the_same_sentence_counts_once(self):
        same = [put(ask([1, 2], 7), [5]), put(ask([1, 2], 1, 7), [6]), put(ask([1, 2], client=7), [7])]
        self.assertEqual(last(*same, count()), [3, 1, 4])
        self.assertEqual(last(*same, put(ask([2, 1]), [5]), put(ask([1]), [5]), count()), [5, 3, 6])
        self.assertEqual(last(*same, put(ask([1, 2, 2]), [5]), put(ask([12]), [5]), count()), [5, 3, 6])

    def test_translations_are_not_counted(self):
        self.assertEqual(last(put(ask([1]), [5]), put(ask([1], 7), [6]), count()), [2, 1, 3])
        self.assertEqual(last(put(ask([1]), [5]), put(ask([2]), [5]), count()), [2, 2, 3])
        self.assertEqual(last(put(ask([1]), [2]), put(ask([2]), [1]), count()), [2, 2, 3])

    def test_after_take(self):
        told = run(put(ask([1]), [5]), put(ask([1], 7), [5]), take(2), count(), take(1), count(), put(ask([1]), [5]))
        self.assertEqual(told[3:], [[1, 1, 3], [0], [0, 0, 3], [3, 1]])

    def test_after_put_instead(self):
        told = run(put(ask([1]), [5]), put(ask([1]), [6]), count(), put(ask([1]), [6]), count())
        self.assertEqual(told[2::2], [[1, 1, 3], [1, 1, 4]])

    def test_after_undo(self):
        told = run(put(ask([1]), [5]), undo(), count(), put(ask([1]), [5]), count(), take(2), undo(), count())
        self.assertEqual(told, [[1, 1], [0], [0, 0, 2], [2, 1], [1, 1, 3], [0], [1], [1, 1, 3]])

    def test_refused_calls_count_for_nothing(self):
        told = run(put(ask([]), [5]), put(ask([1]), []), take(1), undo(), count(), put(ask([1]), [5]))
        self.assertEqual(told, [[-1], [-1], [-2], [-7], [0, 0, 1], [1, 1]])

    def test_thirty_calls(self):
        entries = [put(ask([word % 4], word), [5]) for word in range(29)]
        self.assertEqual(last(*entries, count()), [29, 4, 30])


class Undo(unittest.TestCase):
    def test_nothing_there(self):
        self.assertEqual(run(undo(), undo(), count()), [[-7], [-7], [0, 0, 1]])

    def test_of_a_put(self):
        told = run(
            put(ask([1]), [5]), put(ask([2]), [6]), undo(), find(0, ask([2])), best(ask([2])), with_word(2),
            with_word(6), entry(2), way(2, [2]), take(2), fill(0, [ask([2])]), count(),
        )
        self.assertEqual(told[2:], [[1], [1, 0, 1], [0, 1, 1, 5], [0], [0], [-2], [-2], [-2], [0, 0, 1], [1, 1, 3]])

    def test_of_the_only_put(self):
        told = run(put(ask([1]), [5]), undo(), best(ask([1])), find(0, ask([1])), undo(), count())
        self.assertEqual(told, [[1, 1], [0], [-6], [0], [-7], [0, 0, 2]])

    def test_of_a_take(self):
        told = run(
            put(ask([1], 7, 8, 9), [5]), put(ask([2]), [6]), take(1), undo(), entry(1), entry(2),
            best(ask([1], 7, 8, 9)), count(),
        )
        self.assertEqual(told[2:], [[1], [2], [7, 8, 9, 1, 1, 1, 5], [1, 2, 3, 1, 2, 1, 6], [102, 1, 1, 5], [2, 2, 3]])

    def test_a_taken_entry_comes_back_to_its_place(self):
        entries = [put(ask([word, 9]), [5]) for word in range(3)]
        self.assertEqual(last(*entries, take(2), undo(), with_word(9)), [3, 1, 1, 0, 2, 1, 0, 3, 1, 0])
        told = last(*entries, take(1), take(2), undo(), undo(), put(ask([8]), [9]), with_word(9))
        self.assertEqual(told, [4, 1, 1, 0, 2, 1, 0, 3, 1, 0, 4, 0, 1])

    def test_of_a_put_that_stood_instead_of_another(self):
        told = run(
            put(ask([1]), [5]), put(ask([2]), [6]), put(ask([1]), [7]), undo(), entry(1), entry(3), with_word(7),
            best(ask([1])), with_word(5), count(),
        )
        self.assertEqual(told[2:4], [[3, 2], [2]])
        self.assertEqual(told[4:], [[1, 2, 3, 1, 1, 1, 5], [-2], [0], [102, 1, 1, 5], [1, 1, 0, 1], [2, 2, 4]])

    def test_of_a_put_instead_with_the_same_translation(self):
        told = run(put(ask([1]), [5]), put(ask([1]), [5]), undo(), find(0, ask([1])), undo(), undo())
        self.assertEqual(told, [[1, 1], [2, 1], [1], [1, 102, 1], [0], [-7]])

    def test_several_in_a_row(self):
        told = run(
            put(ask([1]), [5]), put(ask([2]), [6]), put(ask([1]), [7]), take(2), take(3), undo(), with_word(1), undo(),
            with_word(2), undo(), entry(1), undo(), count(), undo(), count(), undo(), count(),
        )
        self.assertEqual(told[:5], [[1, 1], [2, 2], [3, 2], [1], [0]])
        self.assertEqual(told[5::2], [[1], [2], [2], [1], [0], [-7]])
        self.assertEqual(
            told[6::2], [[1, 3, 1, 0], [1, 2, 1, 0], [1, 2, 3, 1, 1, 1, 5], [1, 1, 4], [0, 0, 4], [0, 0, 4]]
        )

    def test_a_put_behind_an_undo_and_undo_again(self):
        told = run(
            put(ask([1]), [5]), put(ask([2]), [6]), undo(), put(ask([3]), [7]), entry(3), undo(), entry(1), entry(2),
            entry(3), undo(), undo(), count(),
        )
        self.assertEqual(told[2:5], [[1], [3, 2], [1, 2, 3, 1, 3, 1, 7]])
        self.assertEqual(told[5:], [[1], [1, 2, 3, 1, 1, 1, 5], [-2], [-2], [0], [-7], [0, 0, 4]])

    def test_an_undo_is_not_undone(self):
        told = run(put(ask([1]), [5]), undo(), undo(), find(0, ask([1])))
        self.assertEqual(told, [[1, 1], [0], [-7], [0]])

    def test_no_number_is_given_twice(self):
        told = run(
            put(ask([1]), [5]), undo(), put(ask([1]), [5]), undo(), put(ask([2]), [5]), take(3), undo(),
            put(ask([4]), [5]), undo(), undo(), put(ask([5]), [5]), count(),
        )
        self.assertEqual([told[place] for place in (0, 2, 4, 7, 10)], [[1, 1], [2, 1], [3, 1], [4, 2], [5, 1]])
        self.assertEqual(told[11], [1, 1, 6])

    def test_what_changes_nothing_is_passed_over(self):
        asking = [
            find(0, ask([1])), best(ask([1])), way(1, [2]), with_word(1), fill(0, [ask([1])]), entry(1), count(),
            near([1], [2]),
        ]
        told = run(put(ask([1]), [5]), put(ask([2]), [6]), *asking, undo(), *asking, undo(), undo())
        self.assertEqual([told[place] for place in (10, 19, 20)], [[1], [0], [-7]])

    def test_a_refused_put_is_nothing_that_undo_takes_back(self):
        wrong = [put(an_ask, [9]) for an_ask in WRONG_ASKS]
        wrong += [put(ask([9]), words) for words in WRONG_SENTENCES] + [put(ask([1]), [])]
        for call in wrong:
            self.assertEqual(run(call, undo(), count()), [[-1], [-7], [0, 0, 1]])
            told = run(put(ask([1]), [5]), put(ask([2]), [6]), call, undo(), entry(1), call, undo(), undo(), count())
            self.assertEqual(told[2:], [[-1], [1], [1, 2, 3, 1, 1, 1, 5], [-1], [0], [-7], [0, 0, 3]], call)

    def test_a_refused_take_is_nothing_that_undo_takes_back(self):
        for number in (0, 3, TOP):
            self.assertEqual(run(take(number), undo()), [[-2], [-7]])
            told = run(put(ask([1]), [5]), put(ask([2]), [6]), take(1), take(1), take(number), undo(), undo(), count())
            self.assertEqual(told[2:], [[1], [-2], [-2], [2], [1], [1, 1, 3]])

    def test_a_refused_undo_changes_nothing(self):
        told = run(undo(), put(ask([1]), [5]), undo(), undo(), put(ask([1]), [6]), best(ask([1])), undo(), count())
        self.assertEqual(told, [[-7], [1, 1], [0], [-7], [2, 1], [102, 2, 1, 6], [0], [0, 0, 3]])

    def test_fifteen_and_fifteen(self):
        told = run(*[put(ask([word]), [5]) for word in range(15)], *[undo()] * 15)
        self.assertEqual(told[15:], [[many] for many in range(14, -1, -1)])


class ThirtyEntries(unittest.TestCase):
    """More than 30 calls are needed here, so these ask the memory itself."""

    def setUp(self):
        self.store = Store()
        for word in range(30):
            self.store.put(Ask(1, 2, 3, [word]), [word])

    def test_one_refused_is_nothing_that_undo_takes_back(self):
        self.assertEqual(self.store.put(Ask(1, 2, 3, [30]), [5]), [-5])
        self.assertEqual(self.store.count(), [30, 30, 31])
        self.assertEqual(self.store.undo(), [29])
        self.assertEqual(self.store.entry(30), [-2])
        self.assertEqual(self.store.put(Ask(1, 2, 3, [30]), [5]), [31, 30])

    def test_one_put_instead(self):
        self.assertEqual(self.store.put(Ask(1, 2, 3, [4]), [77]), [31, 30])
        self.assertEqual(self.store.undo(), [30])
        self.assertEqual(self.store.entry(5), [1, 2, 3, 1, 4, 1, 4])
        self.assertEqual(self.store.count(), [30, 30, 32])

    def test_all_of_them(self):
        for many in range(29, -1, -1):
            self.assertEqual(self.store.undo(), [many])
        self.assertEqual(self.store.undo(), [-7])
        self.assertEqual(self.store.count(), [0, 0, 31])


if __name__ == "__main__":
    unittest.main()
