"""Reads calls that are laid one behind another into one list."""


class Reader:
    def __init__(self, numbers):
        self.numbers = numbers
        self.place = 0

    def is_at_end(self):
        return self.place >= len(self.numbers)

    def next_number(self):
        number = self.numbers[self.place]
        self.place += 1
        return number

    def next_row(self):
        length = self.next_number()
        start = self.place
        self.place = start + length
        # A slice is a copy, so that nothing kept is a part of what was handed in.
        return self.numbers[start:start + length]
