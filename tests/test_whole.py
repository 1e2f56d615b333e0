"""All eleven calls together, in one list, held against the document's words in tests.model."""

import itertools
import random
import unittest

from tests import helper
from tests.helper import TOP, WRONG_ASKS, WRONG_SENTENCES, ask, flat, run
from tests.model import Model
from translations.memory import answers

CALLS = ("put", "take", "find", "best", "way", "with_word", "fill", "entry", "count", "undo", "near")


def called(calls):
    return [getattr(helper, name)(*given) for name, given in calls]


def modelled(calls):
    model = Model()
    return [getattr(model, name)(*given) for name, given in calls]


class Chooser:
    """Chooses calls by chance, such that entries often meet and refusals stay the fewer."""

    def __init__(self, seed):
        self.chance = random.Random(seed)

    def rarely(self):
        return self.chance.random() < 0.06

    def sentence(self, fewest=0):
        if self.rarely():
            return self.chance.choice(WRONG_SENTENCES)
        length = self.chance.choice((fewest, 1, 2, 2, 3, 3, 4, 20))
        return [self.chance.randrange(3) for _ in range(length)]

    def an_ask(self):
        if self.rarely():
            return self.chance.choice(WRONG_ASKS)
        return ask(self.sentence(1), self.chance.randrange(2), self.chance.randrange(2), self.chance.randrange(2))

    def number(self):
        return self.chance.choice((0, TOP)) if self.rarely() else self.chance.randint(1, 12)

    def least(self):
        return self.chance.choice((0, 0, 1, 30, 50, 66, 97, 99, 100, 101, 102, 103, TOP))

    def asks(self):
        many = self.chance.choice((0, 1, 2, 3, 9, 10, 10, 11))
        return [ask([self.chance.randrange(3)] * self.chance.randint(1, 3), 1, 0, 1) for _ in range(many - 1)] + (
            [self.an_ask()] if many else []
        )

    def call(self, name):
        given = {
            "put": lambda: (self.an_ask(), self.sentence(1)),
            "take": lambda: (self.number(),),
            "find": lambda: (self.least(), self.an_ask()),
            "best": lambda: (self.an_ask(),),
            "way": lambda: (self.number(), self.sentence()),
            "with_word": lambda: (self.chance.randrange(4),),
            "fill": lambda: (self.least(), self.asks()),
            "entry": lambda: (self.number(),),
            "count": lambda: (),
            "undo": lambda: (),
            "near": lambda: (self.sentence(), self.sentence()),
        }
        return (name, given[name]())

    def calls(self, first):
        names = [first] + self.chance.choices(CALLS + ("put",) * 8, k=self.chance.randint(0, 29))
        return [self.call(name) for name in names]


class ByChance(unittest.TestCase):
    def test_lists_of_all_calls_each_of_them_first(self):
        for seed in range(70):
            for place, first in enumerate(CALLS):
                calls = Chooser(seed * len(CALLS) + place).calls(first)
                self.assertEqual(run(*called(calls)), modelled(calls), calls)

    def test_the_list_stays_and_a_second_time_answers_alike(self):
        for seed in range(60):
            handed_in = flat(called(Chooser(seed).calls("put")))
            kept = list(handed_in)
            first = answers(handed_in)
            self.assertEqual(handed_in, kept)
            self.assertEqual(answers(handed_in), first)
            self.assertEqual(handed_in, kept)

    def test_a_list_between_changes_nothing(self):
        for seed in range(60):
            one, other = (flat(called(Chooser(seed + more).calls("put"))) for more in (0, 1000))
            first = answers(one)
            answers(other)
            self.assertEqual(answers(one), first)

    def test_numbers_are_never_given_twice(self):
        for seed in range(60):
            chooser = Chooser(seed)
            calls = [chooser.call(chooser.chance.choice(("put", "put", "take", "undo"))) for _ in range(30)]
            told = run(*called(calls))
            given = [answer[0] for call, answer in zip(calls, told) if call[0] == "put" and answer[0] > 0]
            self.assertEqual(given, list(range(1, len(given) + 1)))

    def test_a_refusal_leaves_no_trace(self):
        """Without the refused calls all others answer as they did."""
        for seed in range(60):
            calls = called(Chooser(seed).calls("put"))
            told = run(*calls)
            right = [call for call, answer in zip(calls, told) if answer[0] >= 0]
            if right:
                self.assertEqual(run(*right), [answer for answer in told if answer[0] >= 0])


class Orders(unittest.TestCase):
    def every_order(self, calls, ahead=()):
        for order in itertools.permutations(calls):
            whole = list(ahead) + list(order)
            self.assertEqual(run(*called(whole)), modelled(whole), whole)

    def test_of_changes_and_questions(self):
        self.every_order([
            ("put", (ask([1, 2]), [5])), ("put", (ask([1, 2]), [6])), ("take", (1,)), ("undo", ()), ("count", ()),
            ("entry", (1,)), ("fill", (0, [ask([1, 2]), ask([7])])),
        ])

    def test_of_changes_and_undos(self):
        changes = [("put", (ask([1]), [5])), ("put", (ask([1]), [6])), ("put", (ask([2]), [6])), ("take", (1,))]
        for order in set(itertools.permutations(["0", "1", "2", "3", "undo", "undo", "undo"])):
            calls = [("undo", ()) if name == "undo" else changes[int(name)] for name in order]
            whole = flat([(call, ("count", ()), ("with_word", (6,)), ("entry", (1,))) for call in calls])
            self.assertEqual(run(*called(whole)), modelled(whole), order)

    def test_of_old_calls_and_new_ones(self):
        self.every_order([
            ("put", (ask([1, 2]), [5])), ("undo", ()), ("best", (ask([1]),)), ("near", ([1], [1, 2])),
            ("way", (1, [2])), ("find", (0, ask([2]))),
        ], [("put", (ask([1, 1]), [6]))])

    def test_of_wrong_calls_and_right_ones(self):
        self.every_order([
            ("put", (ask([]), [5])), ("put", (ask([1]), [5])), ("undo", ()), ("take", (9,)), ("near", ([10000], [])),
            ("fill", (103, [])), ("count", ()),
        ])


if __name__ == "__main__":
    unittest.main()
