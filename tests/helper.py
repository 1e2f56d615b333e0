"""Builds lists of calls and takes lists of answers apart."""

from translations.memory import answers

TOP = 4294967295


def ask(sentence, ahead=1, behind=2, client=3):
    return (ahead, behind, client, list(sentence))


WRONG_SENTENCES = ([1] * 21, [1] * 25, [10000], [1] * 19 + [10000], [10000] + [1] * 19, [TOP], [TOP] * 25)
WRONG_ASKS = (
    ask([]), *[ask(words) for words in WRONG_SENTENCES],
    ask([1], ahead=10000), ask([1], ahead=TOP), ask([1], behind=10000), ask([1], behind=TOP),
    ask([1], client=100), ask([1], client=TOP), ask([], 10000, 10000, 100),
)


def row(words):
    return [len(words)] + list(words)


def told(an_ask):
    ahead, behind, client, sentence = an_ask
    return [ahead, behind, client] + row(sentence)


def put(an_ask, translation):
    return [0] + told(an_ask) + row(translation)


def take(number):
    return [1, number]


def find(least, an_ask):
    return [2, least] + told(an_ask)


def best(an_ask):
    return [3] + told(an_ask)


def way(number, sentence):
    return [4, number] + row(sentence)


def with_word(word):
    return [5, word]


def fill(least, asks):
    return [6, least, len(asks)] + row(flat([told(an_ask) for an_ask in asks]))


def entry(number):
    return [7, number]


def count():
    return [8]


def undo():
    return [9]


def near(sentence, other):
    return [10] + row(sentence) + row(other)


def flat(calls):
    return [number for call in calls for number in call]


def apart(numbers):
    """The answers, a list each; every number has to belong to one of them."""
    found = []
    place = 0
    while place < len(numbers):
        end = place + 1 + numbers[place]
        if numbers[place] < 1 or end > len(numbers):
            raise AssertionError(f"not a list of answers: {numbers}")
        found.append(numbers[place + 1:end])
        place = end
    return found


def run(*calls):
    """The answer to each of the calls, on one new memory."""
    found = apart(answers(flat(calls)))
    if len(found) != len(calls):
        raise AssertionError(f"{len(calls)} calls, {len(found)} answers")
    return found


def last(*calls):
    return run(*calls)[-1]
