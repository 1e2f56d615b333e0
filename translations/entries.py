"""An ask, an entry, and which entries are found for an ask."""

from translations.sentences import is_sentence_with_words
from translations.sentences import nearness_of

HIGHEST_NEIGHBOUR = 9999
HIGHEST_CLIENT = 99

HIGHEST_SCORE = 102
BEST_OF_ANOTHER_SENTENCE = 99
LESS_FOR_ANOTHER_CLIENT = 3


class Ask:
    def __init__(self, ahead, behind, client, sentence):
        self.ahead = ahead
        self.behind = behind
        self.client = client
        self.sentence = sentence


class Entry:
    def __init__(self, number, ask, translation):
        self.number = number
        self.ask = ask
        self.translation = translation


# An entry that was found, with what its place among the others hangs on.
class Hit:
    def __init__(self, score, number, translation):
        self.score = score
        self.number = number
        self.translation = translation


def is_ask(ask):
    if ask.ahead > HIGHEST_NEIGHBOUR or ask.behind > HIGHEST_NEIGHBOUR:
        return False
    return ask.client <= HIGHEST_CLIENT and is_sentence_with_words(ask.sentence)


def same_neighbours(one, other):
    return (1 if one.ahead == other.ahead else 0) + (1 if one.behind == other.behind else 0)


def same_ask(one, other):
    return one.sentence == other.sentence and one.client == other.client and same_neighbours(one, other) == 2


def score_of(entry, ask):
    if entry.ask.sentence == ask.sentence:
        score = 100 + same_neighbours(entry.ask, ask)
    else:
        score = min(nearness_of(entry.ask.sentence, ask.sentence), BEST_OF_ANOTHER_SENTENCE)
    if entry.ask.client != ask.client:
        return max(score - LESS_FOR_ANOTHER_CLIENT, 0)
    return score


def hits_for(entries, least, ask):
    hits = [Hit(score_of(entry, ask), entry.number, entry.translation) for entry in entries]
    near_enough = [hit for hit in hits if hit.score >= least]
    ordered = sorted(near_enough, key=lambda hit: (hit.score, hit.number), reverse=True)
    return first_of_each_translation(ordered)


def first_told(entries, least, ask):
    hits = hits_for(entries, least, ask)
    if len(hits) == 0:
        return [0, 0]
    return [hits[0].score, hits[0].number]


def first_of_each_translation(hits):
    firsts = []
    seen = []
    for hit in hits:
        if hit.translation not in seen:
            seen.append(hit.translation)
            firsts.append(hit)
    return firsts
