import unittest

from calling import check
from wordfinder.day import answers, index_behind

BIG = 10 ** 30


class Answers(unittest.TestCase):
    def check(self, deeds, wanted):
        check(self, answers, deeds, wanted)

    def test_day_without_deeds(self):
        self.check([], [])

    def test_put_is_answered_with_numbers_from_nought(self):
        self.check([("put", "one"), ("put", "two"), ("put", "three")], [0, 1, 2])

    def test_same_line_put_twice_has_two_numbers(self):
        self.check([("put", "a b"), ("put", "a b"), ("ask", ("word", "b"))], [0, 1, [0, 1]])

    def test_strike_of_a_kept_line(self):
        self.check([("put", "a"), ("strike", 0), ("ask", ("word", "a"))], [0, True, []])

    def test_strike_leaves_the_other_lines(self):
        deeds = [("put", "a b"), ("put", "a c"), ("put", "a b")]
        for number, kept in ((0, [1, 2]), (1, [0, 2]), (2, [0, 1])):
            asked = deeds + [("strike", number), ("ask", ("word", "a"))]
            self.check(asked, [0, 1, 2, True, kept])

    def test_line_struck_twice(self):
        self.check([("put", "a"), ("strike", 0), ("strike", 0), ("strike", 0)], [0, True, False, False])

    def test_numbers_go_on_behind_a_struck_line(self):
        self.check(
            [("put", "a"), ("put", "a"), ("strike", 1), ("put", "a"), ("strike", 0), ("put", "a"),
             ("ask", ("word", "a"))],
            [0, 1, True, 2, True, 3, [2, 3]],
        )

    def test_numbers_go_on_when_the_only_line_was_struck(self):
        self.check(
            [("put", "a"), ("strike", 0), ("put", "a"), ("ask", ("word", "a")), ("strike", 0), ("strike", 1)],
            [0, True, 1, [1], False, True],
        )

    def test_strike_of_a_number_never_given(self):
        for number in (1, 2, 500, -1, -2, BIG, -BIG):
            with self.subTest(number=number):
                self.check(
                    [("put", "a"), ("strike", number), ("ask", ("word", "a")), ("put", "a"), ("ask", ("word", "a"))],
                    [0, False, [0], 1, [0, 1]],
                )

    def test_strike_on_an_empty_shelf(self):
        self.check([("strike", 0), ("strike", -1), ("put", "a"), ("strike", 0)], [False, False, 0, True])

    def test_a_failed_strike_does_not_reach_a_later_line(self):
        self.check([("strike", 0), ("put", "a"), ("ask", ("word", "a"))], [False, 0, [0]])

    def test_ask_on_an_empty_shelf(self):
        for question in (
            ("word", "a"), ("near", "a", "b", 3), ("row", ["a"]), ("not", ("word", "a")),
            ("and", ("not", ("word", "a")), ("not", ("word", "b"))), ("or", ("word", "a"), ("not", ("word", "a"))),
        ):
            self.check([("ask", question)], [[]])

    def test_ask_sees_the_shelf_of_its_moment(self):
        ask = ("ask", ("word", "a"))
        self.check(
            [ask, ("put", "a"), ask, ("put", "a"), ask, ("strike", 0), ask, ("strike", 1), ask],
            [[], 0, [0], 1, [0, 1], True, [1], True, []],
        )

    def test_lines_without_words_are_kept(self):
        self.check(
            [("put", ""), ("put", "ABC 12!"), ("put", "a"), ("ask", ("not", ("word", "a"))), ("strike", 0),
             ("ask", ("not", ("word", "a"))), ("strike", 0), ("strike", 1), ("put", " ")],
            [0, 1, 2, [0, 1], True, [1], False, True, 3],
        )

    def test_days_do_not_know_of_one_another(self):
        self.assertEqual(answers([("put", "a")]), [0])
        self.assertEqual(answers([("ask", ("word", "a")), ("put", "b")]), [[], 0])

    def test_an_answer_that_is_changed_changes_no_other(self):
        deeds = [("put", "a"), ("ask", ("word", "a")), ("ask", ("word", "a"))]
        day = answers(deeds)
        day[1].append(99)
        self.assertEqual(day[2], [0])
        self.assertEqual(answers(deeds), [0, [0], [0]])

    def test_day_beyond_five_hundred_deeds(self):
        puts = [("put", "even" if number % 2 == 0 else "odd") for number in range(700)]
        strikes = [("strike", number) for number in range(0, 700, 3)]
        wanted = [number for number in range(700) if number % 2 == 0 and number % 3 != 0]
        self.check(
            puts + strikes + [("ask", ("word", "even"))],
            list(range(700)) + [True] * len(strikes) + [wanted],
        )

    def test_a_deed_handed_in_twice(self):
        put = ("put", "a b a")
        ask = ("ask", ("row", ["a", "b"]))
        self.check([put, ask, put, ask], [0, [0], 1, [0, 1]])


class IndexBehind(unittest.TestCase):
    def check(self, deeds, wanted):
        check(self, index_behind, deeds, wanted)

    def test_day_without_deeds(self):
        self.check([], [])

    def test_day_without_a_put(self):
        self.check([("strike", 0), ("ask", ("word", "a"))], [])

    def test_the_document_s_own_line(self):
        self.check(
            [("put", "no, it isn't")],
            [("isn", [(0, [2])]), ("it", [(0, [1])]), ("no", [(0, [0])]), ("t", [(0, [3])])],
        )

    def test_words_in_the_order_of_texts(self):
        self.check(
            [("put", "b ab z aa a abc ba")],
            [("a", [(0, [4])]), ("aa", [(0, [3])]), ("ab", [(0, [1])]), ("abc", [(0, [5])]), ("b", [(0, [0])]),
             ("ba", [(0, [6])]), ("z", [(0, [2])])],
        )

    def test_lines_and_places_rising(self):
        self.check(
            [("put", "to be or not to be"), ("put", "not"), ("put", "be to be be")],
            [
                ("be", [(0, [1, 5]), (2, [0, 2, 3])]),
                ("not", [(0, [3]), (1, [0])]),
                ("or", [(0, [2])]),
                ("to", [(0, [0, 4]), (2, [1])]),
            ],
        )

    def test_more_than_ten_lines_and_places(self):
        self.check([("put", "a " * 12)] * 12, [("a", [(number, list(range(12))) for number in range(12)])])

    def test_struck_lines_are_gone(self):
        self.check(
            [("put", "a b a"), ("put", "b a"), ("put", "a"), ("strike", 0)],
            [("a", [(1, [1]), (2, [0])]), ("b", [(1, [0])])],
        )
        self.check(
            [("put", "a b a"), ("put", "b a"), ("put", "a"), ("strike", 1)],
            [("a", [(0, [0, 2]), (2, [0])]), ("b", [(0, [1])])],
        )

    def test_word_whose_only_line_was_struck_is_gone(self):
        self.check([("put", "a b"), ("put", "b c"), ("strike", 0)], [("b", [(1, [0])]), ("c", [(1, [1])])])
        self.check([("put", "a b b"), ("strike", 0)], [])

    def test_word_that_comes_back_behind_a_strike(self):
        self.check([("put", "x a"), ("strike", 0), ("put", "a")], [("a", [(1, [0])])])

    def test_strike_in_vain_changes_nothing(self):
        for number in (1, -1, BIG, -BIG):
            self.check([("put", "a b"), ("strike", number)], [("a", [(0, [0])]), ("b", [(0, [1])])])
        self.check([("put", "a"), ("put", "a"), ("strike", 0), ("strike", 0)], [("a", [(1, [0])])])

    def test_asking_changes_nothing(self):
        asks = [
            ("ask", ("word", "zz")), ("ask", ("near", "a", "zz", 1)), ("ask", ("row", ["a", "zz"])),
            ("ask", ("not", ("word", ""))), ("ask", ("and", ("word", "a"), ("or", ("word", "b"), ("word", "")))),
        ]
        self.check([("put", "a b")] + asks, [("a", [(0, [0])]), ("b", [(0, [1])])])

    def test_lines_without_words_are_not_in_the_index(self):
        self.check([("put", ""), ("put", "ABC -"), ("put", "a")], [("a", [(2, [0])])])
        self.check([("put", ""), ("put", "1 2 3")], [])

    def test_only_words_of_small_letters_are_in_the_index(self):
        self.check([("put", "Hello heLLo a1b")], [
            ("a", [(0, [3])]), ("b", [(0, [4])]), ("ello", [(0, [0])]), ("he", [(0, [1])]), ("o", [(0, [2])]),
        ])

    def test_days_do_not_know_of_one_another(self):
        index_behind([("put", "a")])[0][1].append("more")
        self.check([("put", "a")], [("a", [(0, [0])])])
        self.check([], [])


if __name__ == "__main__":
    unittest.main()
