"""The document's words, written down once more as plainly as can be: what the program is held against."""

import functools

KEPT, EXCHANGED, TAKEN_OUT, PUT_IN = 0, 1, 2, 3


@functools.lru_cache(maxsize=None)
def least_price(first, second):
    """The least price, by trying each step at the front."""
    if not first or not second:
        return len(first) + len(second)
    prices = [1 + least_price(first[1:], second), 1 + least_price(first, second[1:])]
    prices.append((first[0] != second[0]) + least_price(first[1:], second[1:]))
    return min(prices)


def way_as_told(first, second):
    """The way, in the words of the document."""
    steps = []
    while first or second:
        here = least_price(first, second)
        both = bool(first) and bool(second)
        if both and first[-1] == second[-1] and least_price(first[:-1], second[:-1]) == here:
            steps, first, second = [KEPT] + steps, first[:-1], second[:-1]
        elif both and least_price(first[:-1], second[:-1]) == here - 1:
            steps, first, second = [EXCHANGED] + steps, first[:-1], second[:-1]
        elif first and least_price(first[:-1], second) == here - 1:
            steps, first = [TAKEN_OUT] + steps, first[:-1]
        else:
            steps, second = [PUT_IN] + steps, second[:-1]
    return steps


def how_near(first, second):
    longer = max(len(first), len(second))
    return 100 if longer == 0 else 100 * (longer - least_price(tuple(first), tuple(second))) // longer


def wrong_sentence(words):
    return len(words) > 20 or any(word > 9999 for word in words)


def wrong_ask(an_ask):
    ahead, behind, client, sentence = an_ask
    return not sentence or wrong_sentence(sentence) or ahead > 9999 or behind > 9999 or client > 99


def score(one, other):
    if one[3] == other[3]:
        points = 100 + (one[0] == other[0]) + (one[1] == other[1])
    else:
        points = min(99, how_near(one[3], other[3]))
    return points if one[2] == other[2] else max(0, points - 3)


class Model:
    """One memory: it keeps what was done and isn't undone, and goes through all of it anew each time."""

    def __init__(self):
        self.done = []
        self.given = 0

    def entries(self):
        there = {}
        for number, an_ask, translation in self.done:
            if an_ask is None:
                there.pop(number)
            else:
                there = {key: kept for key, kept in there.items() if kept[0] != an_ask}
                there[number] = (an_ask, translation)
        return there

    def put(self, an_ask, translation):
        if wrong_ask(an_ask) or not translation or wrong_sentence(translation):
            return [-1]
        if len([kept for kept in self.entries().values() if kept[0] != an_ask]) >= 30:
            return [-5]
        self.given += 1
        self.done.append((self.given, an_ask, translation))
        return [self.given, len(self.entries())]

    def take(self, number):
        if number not in self.entries():
            return [-2]
        self.done.append((number, None, None))
        return [len(self.entries())]

    def find(self, least, an_ask):
        if wrong_ask(an_ask) or least > 102:
            return [-1]
        scored = [(-score(kept[0], an_ask), -number, kept[1]) for number, kept in self.entries().items()]
        told, seen = [], []
        for points, number, translation in sorted(scored):
            if -points >= least and translation not in seen:
                seen.append(translation)
                told += [-points, -number]
        return [len(seen)] + told

    def best(self, an_ask):
        found = self.find(0, an_ask)
        if found == [-1]:
            return [-1]
        if found == [0]:
            return [-6]
        translation = self.entries()[found[2]][1]
        return found[1:3] + [len(translation)] + translation

    def way(self, number, sentence):
        if number not in self.entries():
            return [-2]
        if wrong_sentence(sentence):
            return [-1]
        first, second = tuple(self.entries()[number][0][3]), tuple(sentence)
        steps = way_as_told(first, second)
        return [least_price(first, second), len(steps)] + steps

    def with_word(self, word):
        told = []
        for number, (an_ask, translation) in sorted(self.entries().items()):
            if word in an_ask[3] + translation:
                told += [number, an_ask[3].count(word), translation.count(word)]
        return [len(told) // 3] + told

    def fill(self, least, asks):
        if least > 102 or len(asks) > 10 or any(wrong_ask(an_ask) for an_ask in asks):
            return [-1]
        firsts = [(self.find(least, an_ask) + [0, 0])[1:3] for an_ask in asks]
        return [sum(first[0] != 0 for first in firsts)] + [number for first in firsts for number in first]

    def entry(self, number):
        if number not in self.entries():
            return [-2]
        (ahead, behind, client, sentence), translation = self.entries()[number]
        return [ahead, behind, client, len(sentence)] + sentence + [len(translation)] + translation

    def count(self):
        sentences = {tuple(an_ask[3]) for an_ask, _ in self.entries().values()}
        return [len(self.entries()), len(sentences), self.given + 1]

    def undo(self):
        if not self.done:
            return [-7]
        self.done.pop()
        return [len(self.entries())]

    def near(self, sentence, other):
        if wrong_sentence(sentence) or wrong_sentence(other):
            return [-1]
        return [least_price(tuple(sentence), tuple(other)), how_near(sentence, other)]
