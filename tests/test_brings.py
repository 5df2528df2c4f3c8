"""Promise 1 for brings: what a record that came now would bring, and what would no more be looked at."""

import unittest

from tests.lines import ask, block, brings, counts, drop, fields, known, last, pairs, record, remove, told, window

HIGHEST = 4294967295
FULL = [record(n, n) for n in range(1, 15)]


class Brings(unittest.TestCase):
    def test_no_records_and_no_passes(self):
        self.assertEqual(ask(brings(1, 1)), [[0, 0]])
        self.assertEqual(last(record(1, 1), record(1, 1), brings(1, 1)), [0, 0])
        self.assertEqual(last(window(13, 1), block(14, 1), brings(1, 1)), [0, 0])

    def test_pairs_with_it_by_fields(self):
        line = (record(5, 1), record(5, 2), record(6, 2), block(3, 1), block(2, 1, 2))
        found = ask(*line, brings(5, 9), brings(5, 2), brings(6, 2), brings(7, 2))
        self.assertEqual(found[5:], [[2, 0], [2, 0], [1, 0], [0, 0]])

    def test_a_pair_that_several_passes_would_look_at_counts_once(self):
        line = (record(5, 1), block(2, 1), block(3, 1), window(1, 1), window(13, 2), brings(5, 1))
        self.assertEqual(last(*line), [1, 0])

    def test_a_block_that_holds_as_many_as_it_may(self):
        line = (record(4, 1), record(4, 2), record(4, 3), record(6, 1), record(6, 1))
        self.assertEqual(last(*line, block(4, 1), brings(4, 1)), [3, 0])
        self.assertEqual(last(*line, block(3, 1), brings(4, 1)), [0, *told((1, 2), (1, 3), (2, 3))])
        self.assertEqual(last(*line, block(2, 1), brings(4, 1)), [0, 0])
        self.assertEqual(last(*line, block(2, 1), brings(6, 1)), [0, *told((4, 5))])

    def test_what_another_pass_still_looks_at_does_not_go(self):
        line = (record(4, 1), record(4, 1), record(4, 2), block(3, 1), block(3, 2))
        self.assertEqual(last(*line, brings(4, 1)), [2, *told((1, 3), (2, 3))])
        self.assertEqual(last(*line, brings(4, 9)), [0, *told((1, 3), (2, 3))])
        self.assertEqual(last(*line, drop(2), brings(4, 9)), [0, *told((1, 2), (1, 3), (2, 3))])

    def test_neighbours_that_it_would_part(self):
        line = (record(10, 1), record(30, 1), record(20, 1), record(40, 1))
        self.assertEqual(last(*line, window(1, 1), brings(25, 1)), [2, *told((2, 3))])
        self.assertEqual(last(*line, window(2, 1), brings(25, 1)), [4, *told((1, 2), (3, 4))])
        self.assertEqual(last(*line, window(3, 1), brings(25, 1)), [4, *told((1, 4))])
        self.assertEqual(last(*line, window(4, 1), brings(25, 1)), [4, 0])

    def test_at_the_ends_of_a_row(self):
        line = (record(10, 1), record(20, 1), record(30, 1), window(2, 1))
        self.assertEqual(ask(*line, brings(5, 1), brings(35, 1), brings(1, 1), brings(1000000, 1))[4:], [[2, 0]] * 4)

    def test_it_stands_behind_all_of_as_great_a_value(self):
        line = (record(7, 1), record(7, 1), record(7, 1), record(9, 1), window(1, 1))
        self.assertEqual(last(*line, brings(7, 1)), [2, *told((3, 4))])
        self.assertEqual(last(*line, brings(6, 1)), [1, 0])
        self.assertEqual(last(*line, brings(9, 1)), [1, 0])

    def test_behind_as_great_ones_also_after_the_last_record_was_removed(self):
        line = (record(7, 1), record(8, 1), record(7, 1), remove(2), record(8, 1), remove(3), record(7, 1), remove(1),
                record(7, 1), window(1, 1))
        self.assertEqual(ask(*line, pairs(), brings(7, 1))[10:], [told((4, 6), (5, 6)), [2, *told((4, 6))]])

    def test_unknown_values(self):
        line = (record(0, 1), record(4, 0), record(4, 1), block(2, 1), window(1, 1), window(1, 2), block(2, 1, 2))
        self.assertEqual(last(*line, brings(0, 0)), [0, 0])
        self.assertEqual(last(*line, brings(0, 1)), [1, 0])
        self.assertEqual(last(*line, brings(4, 0)), [1, 0])
        self.assertEqual(last(*line[:4], brings(4, 0)), [0, *told((2, 3))])
        self.assertEqual(last(record(0, 1), record(0, 1), block(2, 1), brings(0, 1)), [0, 0])

    def test_the_pairs_that_go_are_told_in_order(self):
        line = (record(9, 1), record(8, 2), record(7, 2), record(9, 3), record(6, 1), record(8, 5))
        passes = (block(2, 1), block(2, 2), window(1, 1))
        for several in (passes, tuple(reversed(passes))):
            self.assertEqual(last(*line, *several, brings(8, 1)), [2, *told((1, 5), (1, 6))])
        self.assertEqual(last(*line, block(2, 2), block(2, 1), brings(9, 2)), [0, *told((1, 4), (2, 3))])

    def test_agrees_with_a_record_that_comes(self):
        line = (record(3, 1), record(3, 2), record(0, 2), record(5, 2), block(2, 1), block(3, 2), window(1, 2))
        for values in ((3, 2), (3, 0), (0, 2), (5, 1), (9, 9), (4, 3)):
            now = last(*line, pairs())[1:]
            then = last(*line, record(*values), pairs())[1:]
            now, then = list(zip(now[::2], now[1::2])), list(zip(then[::2], then[1::2]))
            expected = [sum(1 for pair in then if 5 in pair), *told(*[pair for pair in now if pair not in then])]
            self.assertEqual(last(*line, brings(*values)), expected)


class FourteenRecords(unittest.TestCase):
    def test_it_is_not_refused(self):
        self.assertEqual(ask(*FULL, brings(5, 5), record(5, 5))[14:], [[0, 0], [-6]])

    def test_a_fifteenth_in_the_row(self):
        self.assertEqual(last(*FULL, window(1, 1), brings(7, 1)), [2, *told((7, 8))])
        self.assertEqual(last(*FULL, window(13, 1), brings(20, 1)), [13, 0])
        self.assertEqual(last(*FULL, window(13, 1), brings(7, 1)), [14, *told((1, 14))])

    def test_a_fifteenth_alike(self):
        alike = [record(3, n) for n in range(1, 15)]
        every = [(a, b) for a in range(1, 15) for b in range(a + 1, 15)]
        self.assertEqual(last(*alike, block(14, 1), brings(3, 1)), [0, *told(*every)])
        self.assertEqual(last(*alike, block(14, 1), brings(4, 1)), [0, 0])
        self.assertEqual(last(*alike, block(14, 1), window(13, 2), brings(3, 20)), [13, 0])
        self.assertEqual(last(*alike[:13], record(4, 1), block(14, 1), brings(3, 1)), [13, 0])

    def test_six_passes(self):
        passes = [window(far, 1) for far in (1, 2, 3, 4, 5, 6)]
        gone = [(n, n + 6) for n in range(2, 8)]
        self.assertEqual(last(*FULL, *passes, brings(7, 1)), [12, *told(*gone)])


class Refused(unittest.TestCase):
    def test_not_a_value_for_each_field(self):
        for values in ((), (1,), (1, 2, 3), (1,) * 20):
            self.assertEqual(ask(brings(*values)), [[-1]])
        for n in range(1, 6):
            self.assertEqual(ask(fields(n), brings(*[7] * (n - 1)), brings(*[7] * n), brings(*[7] * (n + 1))),
                             [[0], [-1], [0, 0], [-1]])

    def test_edges_of_a_value(self):
        for value in (0, 1, 1000000):
            self.assertEqual(ask(brings(value, 1), brings(1, value)), [[0, 0], [0, 0]])
        for value in (1000001, HIGHEST):
            self.assertEqual(ask(brings(value, 1), brings(1, value)), [[-1], [-1]])

    def test_also_with_fourteen_records(self):
        self.assertEqual(ask(*FULL, brings(1), brings(), brings(1, 1000001), brings(1, 1000000))[14:],
                         [[-1], [-1], [-1], [0, 0]])

    def test_all_is_as_it_was(self):
        line = (record(1, 1), record(1, 1), block(2, 1), known(1, 2), brings(1), brings(1, 1000001), counts(), pairs(),
                record(2, 2))
        self.assertEqual(ask(*line)[4:], [[-1], [-1], [2, 2, 1, 1, 1], told((1, 2)), [3]])


class NothingCame(unittest.TestCase):
    def test_all_is_as_it_was(self):
        line = (record(1, 1), record(1, 1), block(2, 1), window(1, 2), known(1, 2))
        found = ask(*line, brings(1, 9), brings(1, 9), counts(), pairs(), record(1, 0), pairs())
        self.assertEqual(found[5:], [[1, 0], [1, 0], [2, 2, 2, 1, 1], told((1, 2)), [3], told((1, 2))])

    def test_it_uses_up_no_number(self):
        self.assertEqual(ask(brings(1, 1), brings(1, 1), record(1, 1), brings(1, 1), record(1, 1))[2::2], [[1], [2]])

    def test_no_such_record_is_there(self):
        found = ask(record(1, 1), window(1, 1), brings(1, 1), remove(2), known(1, 2))
        self.assertEqual(found[2:], [[1, 0], [-3], [-3]])


if __name__ == "__main__":
    unittest.main()
