"""What counts tells: fields, records, passes, pairs known, pairs looked at."""

import unittest

from tests.lines import ask, block, counts, drop, fields, known, last, record, remove, window


class Counts(unittest.TestCase):
    def test_at_the_beginning(self):
        self.assertEqual(ask(counts()), [[2, 0, 0, 0, 0]])

    def test_each_in_its_place(self):
        line = (fields(5), *[record(n, 1, 1, 1, 1) for n in (10, 20, 30, 40)], window(2, 1), window(1, 1), block(2, 2),
                known(1, 2), known(1, 4))
        self.assertEqual(last(*line, counts()), [5, 4, 3, 2, 5])

    def test_step_by_step(self):
        line = (record(1, 1), counts(), record(1, 1), counts(), block(2, 1), counts(), known(2, 1), counts(),
                window(1, 2), counts(), record(3, 3), counts(), known(1, 3), counts(), remove(2), counts(), drop(2),
                counts(), remove(1), counts(), fields(3), counts())
        self.assertEqual(ask(*line)[1::2], [
            [2, 1, 0, 0, 0], [2, 2, 0, 0, 0], [2, 2, 1, 0, 1], [2, 2, 1, 1, 1], [2, 2, 2, 1, 1], [2, 3, 2, 1, 2],
            [2, 3, 2, 2, 2], [2, 2, 2, 1, 1], [2, 2, 1, 1, 0], [2, 1, 1, 0, 0], [3, 0, 0, 0, 0]])

    def test_a_pair_that_several_passes_look_at_counts_once(self):
        line = (record(1, 1), record(1, 1), record(0, 2), block(2, 1), block(2, 2), window(13, 1), counts())
        self.assertEqual(last(*line), [2, 3, 3, 0, 1])

    def test_fourteen_records_and_six_passes(self):
        line = (*[record(n, 1) for n in range(1, 15)], *[window(far, 1) for far in (13, 1, 2, 3, 4, 5)])
        self.assertEqual(last(*line, known(1, 14), counts()), [2, 14, 6, 1, 91])

    def test_how_many_there_are_not_the_last_number(self):
        line = (record(1, 1), record(1, 1), remove(1), block(2, 1), block(2, 1), drop(1), counts())
        self.assertEqual(last(*line), [2, 1, 1, 0, 0])

    def test_what_is_refused_does_not_count(self):
        line = (fields(6), record(1), record(1, 1), record(2, 2), block(2), window(0, 1), known(1, 1), known(1, 3),
                known(1, 2), known(2, 1), drop(1), remove(3), counts())
        self.assertEqual(last(*line), [2, 2, 0, 1, 0])


if __name__ == "__main__":
    unittest.main()
