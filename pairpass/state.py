"""What a desk holds, and how each call changes it or tells of it.

Each call's method gives back the list of numbers that are answered. What is refused is refused
before anything is changed, so that all is as it was then.
"""

from pairpass.passes import Block, Window, pairs_of_all

FIELDS_AT_BEGINNING = 2
MOST_FIELDS = 5
MOST_VALUE = 1000000
MOST_RECORDS = 14
MOST_PASSES = 6
LEAST_MANY = 2
MOST_MANY = 14
LEAST_FAR = 1
MOST_FAR = 13

WRONG = -1
NOT_THERE = -3
FULL = -6


def told(pairs):
    numbers = [len(pairs)]
    for pair in pairs:
        numbers.extend(pair)
    return numbers


class Desk:
    def __init__(self):
        self.begin(FIELDS_AT_BEGINNING)

    def begin(self, field_count):
        self.field_count = field_count
        self.records = {}
        self.passes = {}
        # The last numbers given are kept apart, because no number is given twice.
        self.last_record = 0
        self.last_pass = 0

    def has_field(self, field):
        return 1 <= field <= self.field_count

    def fits_fields(self, values):
        return len(values) == self.field_count and all([value <= MOST_VALUE for value in values])

    def are_rising_fields(self, fields):
        before = 0
        for field in fields:
            if field <= before or not self.has_field(field):
                return False
            before = field
        return len(fields) > 0

    def set_fields(self, count):
        if count < 1 or count > MOST_FIELDS:
            return [WRONG]
        self.begin(count)
        return [0]

    def add_record(self, values):
        if not self.fits_fields(values):
            return [WRONG]
        if len(self.records) >= MOST_RECORDS:
            return [FULL]
        self.last_record += 1
        self.records[self.last_record] = values
        return [self.last_record]

    def remove_record(self, record):
        if record not in self.records:
            return [NOT_THERE]
        self.records.pop(record)
        return [len(self.records)]

    def add_block(self, many, fields):
        if not self.are_rising_fields(fields) or many < LEAST_MANY or many > MOST_MANY:
            return [WRONG]
        return self.add_pass(Block(many, fields))

    def add_window(self, far, field):
        if not self.has_field(field) or far < LEAST_FAR or far > MOST_FAR:
            return [WRONG]
        return self.add_pass(Window(far, field))

    def add_pass(self, looking):
        if len(self.passes) >= MOST_PASSES:
            return [FULL]
        self.last_pass += 1
        self.passes[self.last_pass] = looking
        return [self.last_pass]

    def drop_pass(self, number):
        if number not in self.passes:
            return [NOT_THERE]
        self.passes.pop(number)
        return [len(self.passes)]

    def tell_pairs(self):
        return told(pairs_of_all(list(self.passes.values()), self.records))
