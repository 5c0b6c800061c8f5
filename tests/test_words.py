import itertools
import string
import unittest

from calling import call, rows_within
from wordfinder.words import are_in_row, are_near, words_of

BIG = 10 ** 30


class WordsOf(unittest.TestCase):
    def check(self, line, wanted):
        with self.subTest(line=line[:60]):
            answer = call(self, words_of, line)
            self.assertIs(type(answer), list)
            self.assertEqual(answer, wanted)

    def test_empty_line(self):
        self.check("", [])

    def test_no_letter(self):
        for line in (" ", "   ", "1234", "ABC XYZ", "-- '' !?", "\n\t\r", "@[`{"):
            self.check(line, [])

    def test_one_word(self):
        for word in ("a", "z", "word", string.ascii_lowercase):
            self.check(word, [word])

    def test_the_document_s_own_line(self):
        self.check("no, it isn't", ["no", "it", "isn", "t"])

    def test_words_at_the_beginning_and_the_end(self):
        self.check("at the end", ["at", "the", "end"])
        self.check(" at the end ", ["at", "the", "end"])
        self.check("a.", ["a"])
        self.check(".a", ["a"])
        self.check("a.b", ["a", "b"])

    def test_several_parting_signs_behind_one_another(self):
        self.check("one,  -- two...three", ["one", "two", "three"])
        self.check("...one", ["one"])
        self.check("one...", ["one"])

    def test_great_letters_part(self):
        self.check("Hello", ["ello"])
        self.check("heLLo", ["he", "o"])
        self.check("hellO", ["hell"])
        self.check("aBcZd", ["a", "c", "d"])

    def test_digits_blanks_quotes_and_dashes_part(self):
        self.check("a1b22c", ["a", "b", "c"])
        self.check("a b\tc\nd", ["a", "b", "c", "d"])
        self.check("\"it\" isn't", ["it", "isn", "t"])
        self.check("well-known_thing", ["well", "known", "thing"])

    def test_signs_right_beside_the_letters_part(self):
        self.check("a`b{c@d[e", ["a", "b", "c", "d", "e"])
        self.check("`a{", ["a"])
        self.check("@z[", ["z"])

    def test_every_ascii_sign(self):
        for code in range(128):
            sign = chr(code)
            if sign in string.ascii_lowercase:
                self.check("ab" + sign + "cd", ["ab" + sign + "cd"])
                self.check(sign, [sign])
            else:
                self.check("ab" + sign + "cd", ["ab", "cd"])
                self.check(sign + "ab" + sign, ["ab"])
                self.check(sign, [])

    def test_long_words(self):
        self.check("x" * 5000, ["x" * 5000])
        self.check("ab" * 3000 + " " + "z" * 3000, ["ab" * 3000, "z" * 3000])

    def test_many_words(self):
        self.check("ab " * 700, ["ab"] * 700)

    def test_same_word_twice(self):
        self.check("to be or not to be", ["to", "be", "or", "not", "to", "be"])
        self.check("a a", ["a", "a"])

    def test_words_in_their_order(self):
        self.check("zebra apple mango", ["zebra", "apple", "mango"])

    def test_answer_is_a_new_list(self):
        words_of("a b").append("c")
        self.assertEqual(words_of("a b"), ["a", "b"])


class AreNear(unittest.TestCase):
    def check(self, ones, others, many, wanted):
        with self.subTest(ones=ones[:9], others=others[:9], many=many):
            self.assertIs(call(self, are_near, ones, others, many), wanted)
            self.assertIs(call(self, are_near, others, ones, many), wanted)

    def test_empty_rows(self):
        for many in (0, 1, BIG):
            self.check([], [], many, False)
            self.check([], [1, 2], many, False)

    def test_same_number_alone_is_not_near(self):
        for many in (0, 1, 5, BIG):
            self.check([3], [3], many, False)

    def test_same_number_does_not_hide_a_near_one(self):
        self.check([3], [3, 4], 1, True)
        self.check([3], [2, 3], 1, True)
        self.check([3], [1, 3, 5], 1, False)
        self.check([3], [1, 3, 5], 2, True)
        self.check([0, 5], [0, 5], 4, False)

    def test_same_row_handed_in_twice(self):
        row = [2, 7, 10]
        self.check(row, row, 2, False)
        self.check(row, row, 3, True)
        single = [4]
        self.check(single, single, BIG, False)

    def test_many_of_nought(self):
        self.check([1], [1], 0, False)
        self.check([1, 2, 3], [1, 2, 3], 0, False)
        self.check([1, 2], [3, 4], 0, False)

    def test_difference_of_exactly_many_and_one_more(self):
        self.check([10], [14], 4, True)
        self.check([10], [15], 4, False)
        self.check([10], [11], 1, True)
        self.check([10], [12], 1, False)

    def test_either_row_ahead(self):
        self.check([1, 2, 3], [8, 9], 5, True)
        self.check([1, 2, 3], [8, 9], 4, False)

    def test_near_numbers_in_the_middle_and_at_the_last(self):
        self.check([0, 50, 100], [20, 52, 80], 2, True)
        self.check([0, 50, 100], [20, 70, 98], 2, True)
        self.check([0, 50, 100], [20, 70, 102], 2, True)
        self.check([0, 50, 100], [2, 30, 80], 2, True)
        self.check([0, 50, 100], [20, 53, 80], 2, False)

    def test_very_great_many(self):
        self.check([0], [BIG], BIG, True)
        self.check([0], [BIG + 1], BIG, False)
        self.check([5], [6], BIG, True)
        self.check([-BIG], [BIG], BIG, False)

    def test_numbers_below_nought(self):
        self.check([-5], [-3], 2, True)
        self.check([-5], [-3], 1, False)
        self.check([-1], [1], 2, True)
        self.check([-1], [1], 1, False)
        self.check([-3], [3], 5, False)

    def test_rows_beyond_five_hundred(self):
        ones = list(range(0, 7000, 10))
        others = list(range(5, 7000, 10))
        self.check(ones, others, 4, False)
        self.check(ones, others, 5, True)
        self.check(ones, ones, 9, False)

    def test_every_pair_of_small_rows(self):
        rows = rows_within(range(-2, 3))
        for ones in rows:
            for others in rows:
                gaps = [abs(one - other) for one in ones for other in others if one != other]
                for many in range(6):
                    self.check(ones, others, many, any(gap <= many for gap in gaps))


class AreInRow(unittest.TestCase):
    def check(self, rows, wanted):
        with self.subTest(rows=rows[:5]):
            self.assertIs(call(self, are_in_row, rows), wanted)

    def test_one_row_alone(self):
        self.check([[]], False)
        self.check([[0]], True)
        self.check([[4, 9]], True)
        self.check([[-1]], True)

    def test_no_row_asks_nothing(self):
        self.check([], True)

    def test_two_rows(self):
        self.check([[0], [1]], True)
        self.check([[0], [0]], False)
        self.check([[1], [0]], False)
        self.check([[0], [2]], False)
        self.check([[0, 5], [3, 6]], True)

    def test_more_rows(self):
        self.check([[3], [4], [5]], True)
        self.check([[3], [5], [4]], False)
        self.check([[0, 3], [1, 4], [2, 9], [3]], True)

    def test_an_empty_row_among_others(self):
        self.check([[], [1], [2]], False)
        self.check([[0], [], [2]], False)
        self.check([[0], [1], []], False)
        self.check([[], []], False)

    def test_same_row_more_than_once(self):
        row = [2, 3]
        self.check([row, row], True)
        self.check([row, row, row], False)
        single = [2]
        self.check([single, single], False)
        self.check([[1, 2, 3]] * 3, True)
        self.check([[0, 2], [1], [0, 2]], True)

    def test_breaks_off_at_the_last(self):
        self.check([[0], [1], [2], [4]], False)
        self.check([[0, 7], [1, 8], [2, 9], [4, 11]], False)

    def test_a_second_beginning_succeeds(self):
        self.check([[0, 5], [1, 6], [7]], True)
        self.check([[0, 1], [2]], True)
        self.check([[0, 5, 9], [1, 10], [2, 11], [12]], True)

    def test_no_beginning_is_patched_from_two(self):
        self.check([[0, 5], [1], [7]], False)

    def test_numbers_below_nought_and_of_any_size(self):
        self.check([[-2], [-1], [0]], True)
        self.check([[-1], [-2]], False)
        self.check([[BIG], [BIG + 1]], True)
        self.check([[-BIG], [BIG]], False)

    def test_lists_beyond_five_hundred(self):
        self.check([[place] for place in range(700)], True)
        self.check([[place] for place in range(699)] + [[700]], False)
        self.check([list(range(600))] * 600, True)
        self.check([list(range(600))] * 601, False)

    def test_every_three_small_rows(self):
        for rows in itertools.product(rows_within(range(-1, 3)), repeat=3):
            wanted = any(n in rows[0] and n + 1 in rows[1] and n + 2 in rows[2] for n in range(-1, 3))
            self.check(list(rows), wanted)


if __name__ == "__main__":
    unittest.main()
