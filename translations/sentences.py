"""What a sentence is, and how one sentence is made another."""

MOST_WORDS = 20
HIGHEST_WORD = 9999

KEPT = 0
EXCHANGED = 1
TAKEN_OUT = 2
PUT_IN = 3


def is_sentence(words):
    if len(words) > MOST_WORDS:
        return False
    return all([word <= HIGHEST_WORD for word in words])


def is_sentence_with_words(words):
    return len(words) > 0 and is_sentence(words)


def told_sentence(words):
    return [len(words)] + words


# Row i, place j holds the distance of the first i words of the one
# and the first j words of the other: the way needs all of them.
def distance_rows(first, second):
    row = list(range(len(second) + 1))
    rows = [row]
    for word in first:
        row = row_with_word(row, word, second)
        rows.append(row)
    return rows


def row_with_word(above, word, second):
    row = [above[0] + 1]
    for place in range(len(second)):
        exchange = 0 if word == second[place] else 1
        row.append(min(above[place] + exchange, above[place + 1] + 1, row[place] + 1))
    return row


def distance_between(first, second):
    return distance_rows(first, second)[len(first)][len(second)]


def nearness_of(first, second):
    longer = max(len(first), len(second))
    if longer == 0:
        return 100
    return 100 * (longer - distance_between(first, second)) // longer


def way_between(first, second):
    rows = distance_rows(first, second)
    first_left = len(first)
    second_left = len(second)
    steps = []
    while first_left > 0 or second_left > 0:
        step = last_step(rows, first[:first_left], second[:second_left])
        steps.append(step)
        if step != PUT_IN:
            first_left = first_left - 1
        if step != TAKEN_OUT:
            second_left = second_left - 1
    return list(reversed(steps))


# Several ways may have the least price: the order of these questions
# is what makes one of them the way that is told.
def last_step(rows, first, second):
    i = len(first)
    j = len(second)
    distance = rows[i][j]
    if i > 0 and j > 0:
        if first[i - 1] == second[j - 1] and rows[i - 1][j - 1] == distance:
            return KEPT
        if rows[i - 1][j - 1] == distance - 1:
            return EXCHANGED
    if i > 0 and rows[i - 1][j] == distance - 1:
        return TAKEN_OUT
    return PUT_IN
