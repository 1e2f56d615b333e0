"""The entries of one memory, and what each call answers about them."""

from translations.entries import Entry
from translations.entries import HIGHEST_SCORE
from translations.entries import first_told
from translations.entries import hits_for
from translations.entries import is_ask
from translations.entries import same_ask
from translations.refusals import EMPTY_MEMORY
from translations.refusals import NOTHING_TO_UNDO
from translations.refusals import NO_SUCH_ENTRY
from translations.refusals import TOO_MANY_ENTRIES
from translations.refusals import WRONG_INPUT
from translations.refusals import refusal
from translations.sentences import distance_between
from translations.sentences import is_sentence
from translations.sentences import is_sentence_with_words
from translations.sentences import told_sentence
from translations.sentences import way_between

MOST_ENTRIES = 30
MOST_ASKS = 10


class Store:
    # Entries stand by number: a new one has the highest number and goes to the end.
    def __init__(self):
        self.entries = []
        self.earlier = []
        self.next_number = 1

    def put(self, ask, translation):
        if not is_ask(ask) or not is_sentence_with_words(translation):
            return refusal(WRONG_INPUT)
        others = [entry for entry in self.entries if not same_ask(entry.ask, ask)]
        if len(others) >= MOST_ENTRIES:
            return refusal(TOO_MANY_ENTRIES)
        number = self.next_number
        self.next_number = number + 1
        self.change_to(others + [Entry(number, ask, translation)])
        return [number, len(self.entries)]

    def take(self, number):
        if self.entry_with(number) is None:
            return refusal(NO_SUCH_ENTRY)
        self.change_to([entry for entry in self.entries if entry.number != number])
        return [len(self.entries)]

    def find(self, least, ask):
        if least > HIGHEST_SCORE or not is_ask(ask):
            return refusal(WRONG_INPUT)
        hits = hits_for(self.entries, least, ask)
        answer = [len(hits)]
        for hit in hits:
            answer.extend([hit.score, hit.number])
        return answer

    def best(self, ask):
        if not is_ask(ask):
            return refusal(WRONG_INPUT)
        if len(self.entries) == 0:
            return refusal(EMPTY_MEMORY)
        hit = hits_for(self.entries, 0, ask)[0]
        return [hit.score, hit.number] + told_sentence(hit.translation)

    # The document tells the missing entry ahead of the wrong sentence,
    # so that is asked first here, other than in the calls above.
    def way(self, number, sentence):
        entry = self.entry_with(number)
        if entry is None:
            return refusal(NO_SUCH_ENTRY)
        if not is_sentence(sentence):
            return refusal(WRONG_INPUT)
        steps = way_between(entry.ask.sentence, sentence)
        return [distance_between(entry.ask.sentence, sentence), len(steps)] + steps

    def with_word(self, word):
        having = [entry for entry in self.entries if word in entry.ask.sentence or word in entry.translation]
        answer = [len(having)]
        for entry in having:
            answer.extend([entry.number, entry.ask.sentence.count(word), entry.translation.count(word)])
        return answer

    def fill(self, least, asks):
        if least > HIGHEST_SCORE or len(asks) > MOST_ASKS or not all([is_ask(ask) for ask in asks]):
            return refusal(WRONG_INPUT)
        firsts = [first_told(self.entries, least, ask) for ask in asks]
        # The document tells a score of 0 with its number here, but doesn't count it as found.
        answer = [len([first for first in firsts if first[0] > 0])]
        for first in firsts:
            answer.extend(first)
        return answer

    def entry(self, number):
        entry = self.entry_with(number)
        if entry is None:
            return refusal(NO_SUCH_ENTRY)
        ask = entry.ask
        return [ask.ahead, ask.behind, ask.client] + told_sentence(ask.sentence) + told_sentence(entry.translation)

    def count(self):
        different = len(set([tuple(entry.ask.sentence) for entry in self.entries]))
        return [len(self.entries), different, self.next_number]

    # The next number stays: no number is given twice, not after undo either.
    def undo(self):
        if len(self.earlier) == 0:
            return refusal(NOTHING_TO_UNDO)
        self.entries = self.earlier.pop()
        return [len(self.entries)]

    # A list of entries is replaced by another, never changed: so undo finds the earlier ones as they were.
    def change_to(self, entries):
        self.earlier.append(self.entries)
        self.entries = entries

    def entry_with(self, number):
        for entry in self.entries:
            if entry.number == number:
                return entry
        return None
