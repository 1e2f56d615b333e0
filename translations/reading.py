"""Reads calls, one number behind another, from a list that stays as it is."""

from translations.entries import Ask


class Reader:
    def __init__(self, numbers):
        self.numbers = numbers
        self.place = 0

    def at_end(self):
        return self.place >= len(self.numbers)

    def read_number(self):
        number = self.numbers[self.place]
        self.place = self.place + 1
        return number

    def read_row(self):
        length = self.read_number()
        start = self.place
        self.place = start + length
        return self.numbers[start:self.place]

    def read_ask(self):
        ahead = self.read_number()
        behind = self.read_number()
        client = self.read_number()
        return Ask(ahead, behind, client, self.read_row())


def asks_in(row, many):
    reader = Reader(row)
    return [reader.read_ask() for turn in range(many)]
