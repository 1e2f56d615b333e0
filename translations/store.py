"""The entries of one memory, and what each call answers about them."""

from translations.entries import Entry
from translations.entries import HIGHEST_SCORE
from translations.entries import hits_for
from translations.entries import is_ask
from translations.entries import same_ask
from translations.refusals import EMPTY_MEMORY
from translations.refusals import NO_SUCH_ENTRY
from translations.refusals import TOO_MANY_ENTRIES
from translations.refusals import WRONG_INPUT
from translations.refusals import refusal
from translations.sentences import distance_between
from translations.sentences import is_sentence
from translations.sentences import is_sentence_with_words
from translations.sentences import way_between

MOST_ENTRIES = 30


class Store:
    # Entries stand by number: a new one has the highest number and goes to the end.
    def __init__(self):
        self.entries = []
        self.next_number = 1

    def put(self, ask, translation):
        if not is_ask(ask) or not is_sentence_with_words(translation):
            return refusal(WRONG_INPUT)
        others = [entry for entry in self.entries if not same_ask(entry.ask, ask)]
        if len(others) >= MOST_ENTRIES:
            return refusal(TOO_MANY_ENTRIES)
        number = self.next_number
        self.next_number = number + 1
        self.entries = others + [Entry(number, ask, translation)]
        return [number, len(self.entries)]

    def take(self, number):
        if self.entry_with(number) is None:
            return refusal(NO_SUCH_ENTRY)
        self.entries = [entry for entry in self.entries if entry.number != number]
        return [len(self.entries)]

    def find(self, least, ask):
        if least > HIGHEST_SCORE or not is_ask(ask):
            return refusal(WRONG_INPUT)
        hits = hits_for(self.entries, least, ask)
        answer = [len(hits)]
        for hit in hits:
            answer.extend([hit.score, hit.number])
        return answer

    def best(self, ask):
        if not is_ask(ask):
            return refusal(WRONG_INPUT)
        if len(self.entries) == 0:
            return refusal(EMPTY_MEMORY)
        hit = hits_for(self.entries, 0, ask)[0]
        return [hit.score, hit.number, len(hit.translation)] + hit.translation

    # The document tells the missing entry ahead of the wrong sentence,
    # so that is asked first here, other than in the calls above.
    def way(self, number, sentence):
        entry = self.entry_with(number)
        if entry is None:
            return refusal(NO_SUCH_ENTRY)
        if not is_sentence(sentence):
            return refusal(WRONG_INPUT)
        steps = way_between(entry.ask.sentence, sentence)
        return [distance_between(entry.ask.sentence, sentence), len(steps)] + steps

    def with_word(self, word):
        having = [entry for entry in self.entries if word in entry.ask.sentence or word in entry.translation]
        answer = [len(having)]
        for entry in having:
            answer.extend([entry.number, entry.ask.sentence.count(word), entry.translation.count(word)])
        return answer

    def entry_with(self, number):
        for entry in self.entries:
            if entry.number == number:
                return entry
        return None
