"""Answers a list of calls on one new desk."""

from pairpass.reader import Reader
from pairpass.state import Desk

FIELDS = 0
RECORD = 1
REMOVE = 2
BLOCK = 3
WINDOW = 4
DROP = 5
PAIRS = 6


def answer_of_next(desk, reader):
    call = reader.next_number()
    if call == FIELDS:
        return desk.set_fields(reader.next_number())
    if call == RECORD:
        return desk.add_record(reader.next_row())
    if call == REMOVE:
        return desk.remove_record(reader.next_number())
    if call == BLOCK:
        many = reader.next_number()
        return desk.add_block(many, reader.next_row())
    if call == WINDOW:
        far = reader.next_number()
        return desk.add_window(far, reader.next_number())
    if call == DROP:
        return desk.drop_pass(reader.next_number())
    if call == PAIRS:
        return desk.tell_pairs()
    raise NotImplementedError(f"call {call}")


def answers(calls):
    desk = Desk()
    reader = Reader(calls)
    given = []
    while not reader.is_at_end():
        answer = answer_of_next(desk, reader)
        given.append(len(answer))
        given.extend(answer)
    return given
