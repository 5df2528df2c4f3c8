"""Promise 3 for of and why: which pairs with a record are looked at, and which passes look at a pair."""

import unittest

from tests.lines import ask, block, drop, fields, last, of, pairs, record, remove, why, window

HIGHEST = 4294967295
FULL = [record(n, 1) for n in range(1, 15)]


class Of(unittest.TestCase):
    def test_the_other_records_rising(self):
        line = (record(40, 1), record(10, 1), record(30, 1), record(20, 1), window(1, 1))
        found = ask(*line, of(1), of(2), of(3), of(4))
        self.assertEqual(found[5:], [[1, 3], [1, 4], [2, 1, 4], [2, 2, 3]])

    def test_lower_and_higher_numbers_rising_whichever_pass_looks(self):
        line = (record(5, 9), record(6, 8), record(7, 7), record(5, 7), record(8, 7))
        passes = (block(3, 2), block(2, 1))
        self.assertEqual(last(*line, *passes, of(4)), [3, 1, 3, 5])
        self.assertEqual(last(*line, *reversed(passes), of(4)), [3, 1, 3, 5])

    def test_a_pair_that_several_passes_look_at_counts_once(self):
        line = (record(1, 1), record(1, 1), block(2, 1), block(2, 2), window(13, 1), window(1, 2))
        self.assertEqual(last(*line, of(1)), [1, 2])

    def test_not_the_record_itself(self):
        self.assertEqual(last(record(1, 1), window(13, 1), block(14, 1), of(1)), [0])

    def test_no_passes(self):
        self.assertEqual(last(record(1, 1), record(1, 1), of(1)), [0])

    def test_unknown_values(self):
        line = (record(0, 0), record(0, 0), record(1, 0), record(1, 1))
        self.assertEqual(ask(*line, block(14, 1), window(13, 2), of(1), of(2), of(3), of(4))[6:],
                         [[0], [0], [1, 4], [1, 3]])

    def test_fourteen_records_and_six_passes(self):
        passes = [window(far, 1) for far in (1, 2, 3, 4, 5, 6)]
        self.assertEqual(last(*FULL, *passes, of(1)), [6, 2, 3, 4, 5, 6, 7])
        self.assertEqual(last(*FULL, *passes, of(8)), [12, 2, 3, 4, 5, 6, 7, 9, 10, 11, 12, 13, 14])
        self.assertEqual(last(*FULL, window(13, 1), of(9)), [13, *range(1, 9), *range(10, 15)])

    def test_a_full_block_and_one_more(self):
        line = (record(4, 1), record(4, 1), record(4, 1), block(3, 1), of(2), record(4, 1), of(2), remove(1), of(2))
        self.assertEqual(ask(*line)[4:], [[2, 1, 3], [4], [0], [3], [2, 3, 4]])

    def test_after_a_record_was_removed(self):
        line = (record(1, 1), record(2, 1), record(3, 1), window(1, 1), of(1), remove(2), of(1), of(2))
        self.assertEqual(ask(*line)[4:], [[1, 2], [2], [1, 3], [-3]])

    def test_after_a_pass_was_dropped(self):
        line = (record(1, 1), record(1, 2), record(2, 2), block(2, 1), block(2, 2), of(2), drop(1), of(2), drop(2),
                of(2))
        self.assertEqual(ask(*line)[5:], [[2, 1, 3], [1], [1, 3], [0], [0]])

    def test_no_such_record(self):
        self.assertEqual(ask(of(1), of(0), of(HIGHEST)), [[-3]] * 3)
        for number in (0, 3, HIGHEST):
            self.assertEqual(last(record(1, 1), record(1, 1), window(1, 1), of(number)), [-3])

    def test_no_record_after_fields(self):
        self.assertEqual(last(record(1, 1), fields(2), of(1)), [-3])


class Why(unittest.TestCase):
    def test_the_passes_rising(self):
        line = (record(5, 1), record(5, 2), record(6, 2), record(9, 9))
        passes = (block(2, 1), window(1, 2), window(1, 1), block(2, 2), window(2, 1), block(14, 1, 2))
        found = ask(*line, *passes, why(1, 2), why(2, 3), why(1, 3), why(3, 4), why(1, 4))
        self.assertEqual(found[10:], [[4, 1, 2, 3, 5], [4, 2, 3, 4, 5], [1, 5], [3, 2, 3, 5], [0]])

    def test_in_either_order(self):
        line = (record(9, 1), record(5, 1), record(9, 2), block(2, 1), window(1, 1))
        for a, b, expected in ((1, 3, [2, 1, 2]), (1, 2, [1, 2]), (2, 3, [0])):
            self.assertEqual(ask(*line, why(a, b), why(b, a))[5:], [expected, expected])

    def test_no_passes(self):
        self.assertEqual(last(record(1, 1), record(1, 1), why(1, 2)), [0])

    def test_equal_values_stand_by_their_numbers(self):
        line = (record(7, 1), record(7, 1), record(7, 1), record(3, 1), window(1, 1), window(2, 1))
        found = ask(*line, why(1, 2), why(1, 3), why(2, 3), why(1, 4), why(2, 4), why(3, 4))
        self.assertEqual(found[6:], [[2, 1, 2], [1, 2], [2, 1, 2], [2, 1, 2], [1, 2], [0]])

    def test_unknown_values(self):
        line = (record(0, 3), record(0, 3), record(4, 3), block(14, 1), window(13, 1), block(14, 1, 2), block(14, 2))
        self.assertEqual(ask(*line, why(1, 2), why(1, 3))[7:], [[1, 4], [1, 4]])

    def test_a_block_that_holds_as_many_as_it_may(self):
        line = (record(4, 1), record(4, 1), block(2, 1), block(3, 1))
        found = ask(*line, why(1, 2), record(4, 1), why(1, 2), record(4, 1), why(1, 2), remove(3), why(2, 4))
        self.assertEqual(found[4:], [[2, 1, 2], [3], [1, 2], [4], [0], [3], [1, 2]])

    def test_fourteen_records_and_six_passes(self):
        passes = [window(far, 1) for far in (13, 1, 12, 2, 11, 3)]
        self.assertEqual(last(*FULL, *passes, why(1, 14)), [1, 1])
        self.assertEqual(last(*FULL, *passes, why(13, 2)), [3, 1, 3, 5])
        self.assertEqual(last(*FULL, *passes, why(7, 8)), [6, 1, 2, 3, 4, 5, 6])

    def test_numbers_of_passes_after_a_drop(self):
        line = (record(1, 1), record(1, 1), window(1, 1), block(2, 1), window(1, 2), drop(1), why(1, 2), block(2, 2),
                drop(3), why(1, 2))
        self.assertEqual(ask(*line)[5:], [[2], [2, 2, 3], [4], [2], [2, 2, 4]])

    def test_one_is_not_there(self):
        line = (record(1, 1), record(1, 1), window(1, 1))
        for number in (0, 3, HIGHEST):
            self.assertEqual(ask(*line, why(1, number), why(number, 1))[3:], [[-3], [-3]])
        self.assertEqual(ask(*line, remove(1), why(1, 2), why(2, 1))[4:], [[-3], [-3]])
        self.assertEqual(ask(why(1, 2)), [[-3]])

    def test_both_are_the_same(self):
        line = (record(1, 1), record(1, 1), window(1, 1), block(2, 1))
        self.assertEqual(ask(*line, why(1, 1), why(2, 2))[4:], [[-1], [-1]])

    def test_not_there_is_told_ahead_of_the_same(self):
        self.assertEqual(ask(record(1, 1), why(2, 2), why(0, 0), why(HIGHEST, HIGHEST))[1:], [[-3]] * 3)
        self.assertEqual(last(record(1, 1), remove(1), why(1, 1)), [-3])

    def test_agrees_with_pairs(self):
        line = (record(3, 1), record(3, 2), record(0, 2), record(5, 1), block(2, 1), window(2, 2))
        told = last(*line, pairs())[1:]
        looked_at = list(zip(told[::2], told[1::2]))
        for a in range(1, 5):
            for b in range(a + 1, 5):
                self.assertEqual(last(*line, why(a, b))[0] > 0, (a, b) in looked_at)


if __name__ == "__main__":
    unittest.main()
