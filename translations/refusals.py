"""The refusals, by the numbers that the document gives them."""

WRONG_INPUT = 1
NO_SUCH_ENTRY = 2
TOO_MANY_ENTRIES = 5
EMPTY_MEMORY = 6
NOTHING_TO_UNDO = 7


# A refusal is told below 0, so that no other answer looks like it.
def refusal(reason):
    return [-reason]
