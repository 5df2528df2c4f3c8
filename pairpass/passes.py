"""The two sorts of pass, and which pairs they look at.

Records are a dict: a record's number, then its values. A pair is a tuple, the lower number first.
"""

# A value that says that nothing's known.
UNKNOWN = 0


def pair_of(record, other):
    return (min(record, other), max(record, other))


def pairs_within(group):
    pairs = []
    for place, record in enumerate(group):
        for other in group[place + 1:]:
            pairs.append(pair_of(record, other))
    return pairs


class Block:
    def __init__(self, many, fields):
        self.many = many
        self.fields = fields

    def pairs_looked_at(self, records):
        pairs = []
        for group in self.groups_alike(records):
            if len(group) <= self.many:
                pairs.extend(pairs_within(group))
        return pairs

    def groups_alike(self, records):
        groups = {}
        for record, values in records.items():
            shared = tuple([values[field - 1] for field in self.fields])
            # What's unknown is alike to nothing, not to another unknown either.
            if UNKNOWN not in shared:
                groups.setdefault(shared, []).append(record)
        return list(groups.values())


class Window:
    def __init__(self, far, field):
        self.far = far
        self.field = field

    def pairs_looked_at(self, records):
        row = self.records_in_row(records)
        pairs = []
        for place, record in enumerate(row):
            for other in row[place + 1:place + 1 + self.far]:
                pairs.append(pair_of(record, other))
        return pairs

    def records_in_row(self, records):
        standing = []
        for record, values in records.items():
            value = values[self.field - 1]
            if value != UNKNOWN:
                # The number behind the value settles the order where values are equal.
                standing.append((value, record))
        return [record for value, record in sorted(standing)]


def together(lists_of_pairs):
    pairs = []
    for part in lists_of_pairs:
        pairs.extend(part)
    # Several passes may look at the same pair; it counts once.
    return sorted(set(pairs))


def pairs_of_all(passes, records):
    return together([looking.pairs_looked_at(records) for looking in passes])


def pairs_not_in(pairs, looked_at):
    return [pair for pair in pairs if pair not in looked_at]
