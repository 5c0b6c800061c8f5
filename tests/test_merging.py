import unittest

from calling import call, rows_within
from wordfinder.merging import in_both, in_either, in_first

BIG = 10 ** 30


class Merging(unittest.TestCase):
    def check(self, ones, others, both, either, first):
        for function, wanted in ((in_both, both), (in_either, either), (in_first, first)):
            with self.subTest(function=function.__name__, ones=ones, others=others):
                answer = call(self, function, ones, others)
                self.assertIs(type(answer), list)
                self.assertEqual(answer, wanted)

    def test_both_rows_empty(self):
        self.check([], [], [], [], [])

    def test_first_row_empty(self):
        self.check([], [1, 4], [], [1, 4], [])

    def test_other_row_empty(self):
        self.check([1, 4], [], [], [1, 4], [1, 4])

    def test_same_rows(self):
        self.check([0, 3, 7], [0, 3, 7], [0, 3, 7], [0, 3, 7], [])

    def test_same_row_handed_in_twice(self):
        row = [0, 3, 7]
        self.check(row, row, [0, 3, 7], [0, 3, 7], [])

    def test_nothing_in_common(self):
        self.check([1, 3, 5], [0, 2, 4, 6], [], [0, 1, 2, 3, 4, 5, 6], [1, 3, 5])

    def test_partly_overlapping(self):
        self.check([1, 2, 3, 9], [2, 3, 4], [2, 3], [1, 2, 3, 4, 9], [1, 9])
        self.check([2, 3, 4], [1, 2, 3, 9], [2, 3], [1, 2, 3, 4, 9], [4])

    def test_one_within_the_other(self):
        self.check([2, 5], [1, 2, 5, 8], [2, 5], [1, 2, 5, 8], [])
        self.check([1, 2, 5, 8], [2, 5], [2, 5], [1, 2, 5, 8], [1, 8])

    def test_wholly_ahead(self):
        self.check([1, 2], [3, 4], [], [1, 2, 3, 4], [1, 2])
        self.check([3, 4], [1, 2], [], [1, 2, 3, 4], [3, 4])

    def test_common_at_the_seam_only(self):
        self.check([1, 2], [2, 3], [2], [1, 2, 3], [1])
        self.check([2, 3], [1, 2], [2], [1, 2, 3], [3])

    def test_numbers_below_nought(self):
        self.check([-9, -2, 0], [-10, -2, 1], [-2], [-10, -9, -2, 0, 1], [-9, 0])

    def test_numbers_of_any_size(self):
        self.check([-BIG, 0, BIG], [-BIG, BIG + 1], [-BIG], [-BIG, 0, BIG, BIG + 1], [0, BIG])

    def test_rows_beyond_five_hundred(self):
        evens = list(range(0, 1400, 2))
        threes = list(range(0, 2100, 3))
        sixes = list(range(0, 1400, 6))
        either = [n for n in range(2100) if n % 3 == 0 or n % 2 == 0 and n < 1400]
        self.check(evens, threes, sixes, either, [n for n in evens if n % 3 != 0])

    def test_answer_is_a_new_list(self):
        for function in (in_both, in_either, in_first):
            for ones, others in (([1, 2], [1, 2]), ([1, 2], []), ([], [1, 2]), ([], [])):
                with self.subTest(function=function.__name__, ones=ones, others=others):
                    ahead = (list(ones), list(others))
                    function(ones, others).append(99)
                    self.assertEqual((ones, others), ahead)
                    self.assertNotIn(99, function(ones, others))

    def test_every_pair_of_small_rows(self):
        numbers = range(-2, 3)
        for ones in rows_within(numbers):
            for others in rows_within(numbers):
                self.check(
                    ones,
                    others,
                    [n for n in numbers if n in ones and n in others],
                    [n for n in numbers if n in ones or n in others],
                    [n for n in numbers if n in ones and n not in others],
                )


if __name__ == "__main__":
    unittest.main()
