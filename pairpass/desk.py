"""Answers a list of calls on one new desk."""

from pairpass.reader import Reader
from pairpass.state import Desk

FIELDS = 0
RECORD = 1
REMOVE = 2
BLOCK = 3
WINDOW = 4
DROP = 5
PAIRS = 6
OF = 7
WHY = 8
KNOWN = 9
MISSED = 10
CHEAPEST = 11
BRINGS = 12
COUNTS = 13


def changes_something(call):
    return call in (FIELDS, RECORD, REMOVE, BLOCK, WINDOW, DROP, KNOWN)


def answer_of_change(call, desk, reader):
    if call == FIELDS:
        return desk.set_fields(reader.next_number())
    if call == RECORD:
        return desk.add_record(reader.next_row())
    if call == REMOVE:
        return desk.remove_record(reader.next_number())
    if call == BLOCK:
        many = reader.next_number()
        return desk.add_block(many, reader.next_row())
    if call == WINDOW:
        far = reader.next_number()
        return desk.add_window(far, reader.next_number())
    if call == DROP:
        return desk.drop_pass(reader.next_number())
    record = reader.next_number()
    return desk.add_known(record, reader.next_number())


def answer_of_question(call, desk, reader):
    if call == PAIRS:
        return desk.tell_pairs()
    if call == OF:
        return desk.tell_pairs_with(reader.next_number())
    if call == WHY:
        record = reader.next_number()
        return desk.tell_passes_at(record, reader.next_number())
    if call == MISSED:
        return desk.tell_missed()
    if call == CHEAPEST:
        return desk.tell_cheapest()
    if call == BRINGS:
        return desk.tell_brought(reader.next_row())
    if call == COUNTS:
        return desk.tell_counts()
    raise ValueError(f"there is no call {call}")


def answer_of_next(desk, reader):
    call = reader.next_number()
    if changes_something(call):
        return answer_of_change(call, desk, reader)
    return answer_of_question(call, desk, reader)


def answers(calls):
    desk = Desk()
    reader = Reader(calls)
    given = []
    while not reader.is_at_end():
        answer = answer_of_next(desk, reader)
        given.append(len(answer))
        given.extend(answer)
    return given
