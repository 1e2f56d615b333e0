"""The calls on one memory of translations, handed in as one list of whole numbers."""

from translations.reading import Reader
from translations.store import Store

PUT = 0
TAKE = 1
FIND = 2
BEST = 3
WAY = 4
WITH_WORD = 5


class UnknownCall(ValueError):
    pass


def answers(calls):
    reader = Reader(calls)
    store = Store()
    told = []
    while not reader.at_end():
        answer = answer_to_next(store, reader)
        told.append(len(answer))
        told.extend(answer)
    return told


def answer_to_next(store, reader):
    call = reader.read_number()
    if call == PUT:
        return answer_to_put(store, reader)
    if call == TAKE:
        return store.take(reader.read_number())
    if call == FIND:
        return answer_to_find(store, reader)
    if call == BEST:
        return store.best(reader.read_ask())
    if call == WAY:
        return answer_to_way(store, reader)
    if call == WITH_WORD:
        return store.with_word(reader.read_number())
    raise UnknownCall("no such call")


def answer_to_put(store, reader):
    ask = reader.read_ask()
    return store.put(ask, reader.read_row())


def answer_to_find(store, reader):
    least = reader.read_number()
    return store.find(least, reader.read_ask())


def answer_to_way(store, reader):
    number = reader.read_number()
    return store.way(number, reader.read_row())
