"""The calls on one memory of translations, handed in as one list of whole numbers."""

from translations.reading import Reader
from translations.reading import asks_in
from translations.refusals import WRONG_INPUT
from translations.refusals import refusal
from translations.sentences import distance_between
from translations.sentences import is_sentence
from translations.sentences import nearness_of
from translations.store import Store

PUT = 0
TAKE = 1
FIND = 2
BEST = 3
WAY = 4
WITH_WORD = 5
FILL = 6
ENTRY = 7
COUNT = 8
UNDO = 9
NEAR = 10


class UnknownCall(ValueError):
    pass


def answers(calls):
    reader = Reader(calls)
    store = Store()
    told = []
    while not reader.at_end():
        answer = answer_to_next(store, reader)
        told.append(len(answer))
        told.extend(answer)
    return told


def answer_to_next(store, reader):
    call = reader.read_number()
    if call == PUT:
        return answer_to_put(store, reader)
    if call == TAKE:
        return store.take(reader.read_number())
    if call == FIND:
        return answer_to_find(store, reader)
    if call == BEST:
        return store.best(reader.read_ask())
    if call == WAY:
        return answer_to_way(store, reader)
    if call == WITH_WORD:
        return store.with_word(reader.read_number())
    if call == FILL:
        return answer_to_fill(store, reader)
    if call == ENTRY:
        return store.entry(reader.read_number())
    if call == COUNT:
        return store.count()
    if call == UNDO:
        return store.undo()
    if call == NEAR:
        return answer_to_near(reader)
    raise UnknownCall("no such call")


def answer_to_put(store, reader):
    ask = reader.read_ask()
    return store.put(ask, reader.read_row())


def answer_to_find(store, reader):
    least = reader.read_number()
    return store.find(least, reader.read_ask())


def answer_to_way(store, reader):
    number = reader.read_number()
    return store.way(number, reader.read_row())


def answer_to_fill(store, reader):
    least = reader.read_number()
    many = reader.read_number()
    return store.fill(least, asks_in(reader.read_row(), many))


# Two sentences that are handed in are no matter of the store's: no entry is asked.
def answer_to_near(reader):
    sentence = reader.read_row()
    other = reader.read_row()
    if not is_sentence(sentence) or not is_sentence(other):
        return refusal(WRONG_INPUT)
    return [distance_between(sentence, other), nearness_of(sentence, other)]
