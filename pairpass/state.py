"""What a desk holds, and how each call changes it or tells of it.

Each call's method gives back the list of numbers that are answered. What is refused is refused
before anything is changed, so that all is as it was then.
"""

from pairpass.choices import cheapest_choice
from pairpass.passes import Block, Window, pair_of, pairs_not_in, pairs_of_all

FIELDS_AT_BEGINNING = 2
MOST_FIELDS = 5
MOST_VALUE = 1000000
MOST_RECORDS = 14
MOST_PASSES = 6
LEAST_MANY = 2
MOST_MANY = 14
LEAST_FAR = 1
MOST_FAR = 13

WRONG = -1
NOT_THERE = -3
KNOWN_ALREADY = -4
FULL = -6
ONE_IS_MISSED = -7


def told(pairs):
    numbers = [len(pairs)]
    for pair in pairs:
        numbers.extend(pair)
    return numbers


class Desk:
    def __init__(self):
        self.begin(FIELDS_AT_BEGINNING)

    def begin(self, field_count):
        self.field_count = field_count
        # Numbers are given rising, and a dict keeps the order in which keys came: both rise when walked.
        self.records = {}
        self.passes = {}
        # Pairs in the order in which they came to be known.
        self.known = []
        # The last numbers given are kept apart, because no number is given twice.
        self.last_record = 0
        self.last_pass = 0

    def has_field(self, field):
        return 1 <= field <= self.field_count

    def fits_fields(self, values):
        return len(values) == self.field_count and all([value <= MOST_VALUE for value in values])

    def are_rising_fields(self, fields):
        before = 0
        for field in fields:
            if field <= before or not self.has_field(field):
                return False
            before = field
        return len(fields) > 0

    def set_fields(self, count):
        if count < 1 or count > MOST_FIELDS:
            return [WRONG]
        self.begin(count)
        return [0]

    def add_record(self, values):
        if not self.fits_fields(values):
            return [WRONG]
        if len(self.records) >= MOST_RECORDS:
            return [FULL]
        self.last_record += 1
        self.records[self.last_record] = values
        return [self.last_record]

    def remove_record(self, record):
        if record not in self.records:
            return [NOT_THERE]
        self.records.pop(record)
        self.known = [pair for pair in self.known if record not in pair]
        return [len(self.records)]

    def add_block(self, many, fields):
        if not self.are_rising_fields(fields) or many < LEAST_MANY or many > MOST_MANY:
            return [WRONG]
        return self.add_pass(Block(many, fields))

    def add_window(self, far, field):
        if not self.has_field(field) or far < LEAST_FAR or far > MOST_FAR:
            return [WRONG]
        return self.add_pass(Window(far, field))

    def add_pass(self, looking):
        if len(self.passes) >= MOST_PASSES:
            return [FULL]
        self.last_pass += 1
        self.passes[self.last_pass] = looking
        return [self.last_pass]

    def drop_pass(self, number):
        if number not in self.passes:
            return [NOT_THERE]
        self.passes.pop(number)
        return [len(self.passes)]

    def refusal_of_pair(self, record, other):
        if record not in self.records or other not in self.records:
            return NOT_THERE
        if record == other:
            return WRONG
        return None

    def add_known(self, record, other):
        refusal = self.refusal_of_pair(record, other)
        if refusal is not None:
            return [refusal]
        pair = pair_of(record, other)
        if pair in self.known:
            return [KNOWN_ALREADY]
        self.known.append(pair)
        return [len(self.known)]

    def pairs_among(self, records):
        return pairs_of_all(list(self.passes.values()), records)

    def tell_pairs(self):
        return told(self.pairs_among(self.records))

    def tell_pairs_with(self, record):
        if record not in self.records:
            return [NOT_THERE]
        pairs = self.pairs_among(self.records)
        others = [other for other in self.records if pair_of(record, other) in pairs]
        return [len(others)] + others

    def tell_passes_at(self, record, other):
        refusal = self.refusal_of_pair(record, other)
        if refusal is not None:
            return [refusal]
        pair = pair_of(record, other)
        numbers = [number for number, looking in self.passes.items() if pair in looking.pairs_looked_at(self.records)]
        return [len(numbers)] + numbers

    def tell_missed(self):
        return told(pairs_not_in(self.known, self.pairs_among(self.records)))

    def tell_cheapest(self):
        pairs_by_pass = {}
        for number, looking in self.passes.items():
            pairs_by_pass[number] = looking.pairs_looked_at(self.records)
        best = cheapest_choice(pairs_by_pass, self.known)
        if best is None:
            return [ONE_IS_MISSED]
        return best

    def tell_brought(self, values):
        if not self.fits_fields(values):
            return [WRONG]
        # The number such a record would be given: it stands behind all records of as great a value.
        newcomer = self.last_record + 1
        records = dict(self.records)
        records[newcomer] = values
        pairs = self.pairs_among(records)
        brought = [pair for pair in pairs if newcomer in pair]
        return [len(brought)] + told(pairs_not_in(self.pairs_among(self.records), pairs))

    def tell_counts(self):
        pair_count = len(self.pairs_among(self.records))
        return [self.field_count, len(self.records), len(self.passes), len(self.known), pair_count]
