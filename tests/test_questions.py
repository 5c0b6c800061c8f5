import string
import unittest

from calling import check
from wordfinder.day import answers

BIG = 10 ** 30

NO_WORDS = ("", " ", "A", "Ab", "aB", "a b", " a", "a ", "a-b", "isn't", "a1", "1", "'", "a\n", "\n", "`", "{")


class Questions(unittest.TestCase):
    def check(self, lines, question, wanted):
        """The question is met by the wanted ones of the lines."""
        with self.subTest(lines=[line[:40] for line in lines[:5]], question=repr(question)[:200]):
            puts = [("put", line) for line in lines]
            check(self, answers, puts + [("ask", question)], list(range(len(lines))) + [wanted])


class Word(Questions):
    def test_lines_that_meet_it_and_lines_that_do_not(self):
        lines = ["a cat", "the dog", "cat", "dog, cat, cow", ""]
        self.check(lines, ("word", "cat"), [0, 2, 3])
        self.check(lines, ("word", "dog"), [1, 3])
        self.check(lines, ("word", "the"), [1])
        self.check(lines, ("word", "bird"), [])

    def test_only_the_whole_word(self):
        lines = ["cats", "concat", "cat", "scatter", "ca t", "Cat", "catS"]
        self.check(lines, ("word", "cat"), [2, 6])
        self.check(lines, ("word", "at"), [5])

    def test_word_beside_every_other_sign(self):
        for code in range(128):
            sign = chr(code)
            found = [] if sign in string.ascii_lowercase else [0]
            self.check([sign + "cat" + sign], ("word", "cat"), found)

    def test_word_more_than_once_in_a_line_is_found_once(self):
        self.check(["a a a", "b", "a b a"], ("word", "a"), [0, 2])

    def test_text_that_is_no_word(self):
        for text in NO_WORDS:
            self.check(["a b", "", "A", "it isn't a", text, text + " " + text], ("word", text), [])

    def test_found_numbers_rise_beyond_ten(self):
        self.check(["a"] * 25, ("word", "a"), list(range(25)))

    def test_very_long_word(self):
        self.check(["x" * 2000, "x" * 1999], ("word", "x" * 2000), [0])


class Near(Questions):
    def test_difference_of_many_and_one_more(self):
        lines = ["a b", "a x b", "a x x b", "a x x x b", "a", "b", ""]
        self.check(lines, ("near", "a", "b", 1), [0])
        self.check(lines, ("near", "a", "b", 2), [0, 1])
        self.check(lines, ("near", "a", "b", 3), [0, 1, 2])
        self.check(lines, ("near", "a", "b", 4), [0, 1, 2, 3])

    def test_whichever_comes_first(self):
        lines = ["a x b", "b x a", "a x x b", "b x x a"]
        for one, other in (("a", "b"), ("b", "a")):
            self.check(lines, ("near", one, other, 1), [])
            self.check(lines, ("near", one, other, 2), [0, 1])
            self.check(lines, ("near", one, other, 3), [0, 1, 2, 3])

    def test_places_are_counted_in_words(self):
        self.check(["a,  ... 12 B b", "a it's b"], ("near", "a", "b", 1), [0])

    def test_many_of_nought_is_never_met(self):
        lines = ["a b", "b a", "a a", "a", "a b a b"]
        self.check(lines, ("near", "a", "b", 0), [])
        self.check(lines, ("near", "a", "a", 0), [])

    def test_very_great_many(self):
        far = "a " + "x " * 600 + "b"
        lines = [far, "b a", "a a", "b", "a", ""]
        self.check(lines, ("near", "a", "b", BIG), [0, 1])
        self.check(lines, ("near", "b", "a", 601), [0, 1])
        self.check(lines, ("near", "a", "b", 600), [1])
        self.check(lines, ("near", "a", "a", BIG), [2])

    def test_same_word_has_to_stand_there_twice(self):
        lines = ["a", "a a", "a b", "a b a", "a b b a", "b", ""]
        self.check(lines, ("near", "a", "a", 1), [1])
        self.check(lines, ("near", "a", "a", 2), [1, 3])
        self.check(lines, ("near", "a", "a", 3), [1, 3, 4])
        self.check(lines, ("near", "b", "b", 1), [4])

    def test_some_pair_of_several(self):
        self.check(["a x x x b x a", "a x x x b x x a b", "a x x x b x x x a"], ("near", "a", "b", 2), [0, 1])

    def test_both_words_have_to_stand_in_the_same_line(self):
        self.check(["a", "b", "a c", "c b"], ("near", "a", "b", 5), [])

    def test_text_that_is_no_word(self):
        lines = ["a b", "", "a A", "a a1", "isn't a"]
        for text in NO_WORDS:
            self.check(lines, ("near", "a", text, 9), [])
            self.check(lines, ("near", text, "a", 9), [])
            self.check(lines, ("near", text, text, 9), [])


class Row(Questions):
    def test_row_of_one_word(self):
        self.check(["a b", "b", "c", ""], ("row", ["b"]), [0, 1])
        self.check(["a b", "b", "c", ""], ("row", ["d"]), [])

    def test_words_one_behind_the_other(self):
        lines = ["to be or not", "be to", "to be", "to, be!", "to X be", "not to be", "to or be", "tobe", "to", "be"]
        self.check(lines, ("row", ["to", "be"]), [0, 2, 3, 4, 5])
        self.check(lines, ("row", ["be", "to"]), [1])
        self.check(lines, ("row", ["to", "be", "or"]), [0])
        self.check(lines, ("row", ["not", "to", "be"]), [5])
        self.check(lines, ("row", ["to", "be", "or", "not", "to"]), [])

    def test_words_that_stand_apart(self):
        self.check(["a x b", "b a", "a b", "a c b c"], ("row", ["a", "b"]), [2])
        self.check(["a b x b c", "b c a b", "x a b c"], ("row", ["a", "b", "c"]), [2])

    def test_a_word_more_than_once(self):
        lines = ["a", "a a", "a a a", "a b a", "a b a a", "b a a b"]
        self.check(lines, ("row", ["a", "a"]), [1, 2, 4, 5])
        self.check(lines, ("row", ["a", "a", "a"]), [2])
        self.check(lines, ("row", ["a", "b", "a"]), [3, 4])
        self.check(lines, ("row", ["b", "a", "a", "b"]), [5])

    def test_a_second_beginning(self):
        self.check(["a b a c", "a a b c", "a b c"], ("row", ["a", "c"]), [0])
        self.check(["a a b", "b a a b"], ("row", ["a", "b"]), [0, 1])

    def test_not_over_the_end_of_a_line(self):
        self.check(["x a", "b y"], ("row", ["a", "b"]), [])

    def test_text_that_is_no_word(self):
        lines = ["a b", "", "a A b", "a a1 b", "isn't a", "a  b"]
        for text in NO_WORDS:
            self.check(lines, ("row", [text]), [])
            self.check(lines, ("row", [text, text]), [])
            self.check(lines, ("row", ["a", text]), [])
            self.check(lines, ("row", [text, "a"]), [])
            self.check(lines, ("row", ["a", text, "b"]), [])

    def test_row_beyond_five_hundred_words(self):
        self.check(["a " * 700, "a " * 699], ("row", ["a"] * 700), [0])
        self.check(["a b " * 350, "b a " * 350], ("row", ["a", "b"] * 350), [0])

    def test_row_of_no_words_is_met_by_every_line(self):
        self.check(["a", "", "B"], ("row", []), [0, 1, 2])


class Joined(Questions):
    LINES = ["", "a", "b", "a b", "c", "a c", "b c", "a b c", "D"]

    def test_and(self):
        self.check(self.LINES, ("and", ("word", "a"), ("word", "b")), [3, 7])
        self.check(self.LINES, ("and", ("word", "b"), ("word", "a")), [3, 7])
        self.check(self.LINES, ("and", ("word", "a"), ("word", "x")), [])
        self.check(self.LINES, ("and", ("word", "a"), ("word", "a")), [1, 3, 5, 7])

    def test_or(self):
        self.check(self.LINES, ("or", ("word", "a"), ("word", "b")), [1, 2, 3, 5, 6, 7])
        self.check(self.LINES, ("or", ("word", "b"), ("word", "a")), [1, 2, 3, 5, 6, 7])
        self.check(self.LINES, ("or", ("word", "c"), ("word", "x")), [4, 5, 6, 7])
        self.check(self.LINES, ("or", ("word", "x"), ("word", "y")), [])

    def test_not(self):
        self.check(self.LINES, ("not", ("word", "a")), [0, 2, 4, 6, 8])
        self.check(self.LINES, ("not", ("word", "x")), list(range(9)))
        self.check(self.LINES, ("not", ("row", ["a", "b"])), [0, 1, 2, 4, 5, 6, 8])
        self.check(self.LINES, ("not", ("near", "a", "c", 1)), [0, 1, 2, 3, 4, 6, 7, 8])

    def test_not_is_met_by_every_line(self):
        for text in NO_WORDS:
            self.check(self.LINES, ("not", ("word", text)), list(range(9)))

    def test_not_over_lines_without_words(self):
        self.check(["", " ", "ABC", "12"], ("not", ("word", "a")), [0, 1, 2, 3])
        self.check(["", " ", "ABC", "12"], ("not", ("not", ("word", "a"))), [])

    def test_each_side_is_a_question_of_its_own(self):
        self.check(self.LINES, ("and", ("word", "a"), ("not", ("word", "b"))), [1, 5])
        self.check(self.LINES, ("and", ("not", ("word", "b")), ("word", "a")), [1, 5])
        self.check(self.LINES, ("or", ("word", "a"), ("not", ("word", "c"))), [0, 1, 2, 3, 5, 7, 8])
        self.check(self.LINES, ("and", ("near", "a", "c", 2), ("row", ["b", "c"])), [7])
        self.check(self.LINES, ("or", ("near", "a", "c", 1), ("row", ["a", "b"])), [3, 5, 7])

    def test_five_within_one_another(self):
        question = ("not", ("and", ("or", ("word", "a"), ("word", "b")), ("not", ("row", ["a", "b"]))))
        self.check(self.LINES, question, [0, 3, 4, 7, 8])
        self.check(self.LINES, ("or", question, ("word", "c")), [0, 3, 4, 5, 6, 7, 8])
        self.check(self.LINES, ("and", ("word", "c"), question), [4, 7])
        self.check(self.LINES, ("not", ("not", ("not", ("not", ("word", "a"))))), [1, 3, 5, 7])
        self.check(self.LINES, ("not", ("not", ("not", ("not", ("not", ("word", "a")))))), [0, 2, 4, 6, 8])

    def test_more_than_five_within_one_another(self):
        question = ("word", "a")
        for step in range(20):
            question = ("or", ("and", question, ("word", "a")), ("row", ["x"]))
        self.check(self.LINES, question, [1, 3, 5, 7])

    def test_a_question_handed_in_twice(self):
        question = ("row", ["a", "b"])
        self.check(self.LINES, ("and", question, question), [3, 7])
        self.check(self.LINES, ("and", question, ("not", question)), [])


class StruckLines(unittest.TestCase):
    def test_struck_lines_meet_no_question(self):
        lines = ["a b", "a b", "a b", "", ""]
        for question in (
            ("word", "a"), ("near", "a", "b", 1), ("row", ["a", "b"]), ("not", ("word", "c")),
            ("and", ("word", "a"), ("word", "b")), ("or", ("word", "a"), ("word", "c")),
            ("not", ("not", ("word", "a"))),
        ):
            with self.subTest(question=question):
                deeds = [("put", line) for line in lines] + [("strike", 1), ("strike", 3), ("ask", question)]
                found = [0, 2, 4] if question == ("not", ("word", "c")) else [0, 2]
                check(self, answers, deeds, [0, 1, 2, 3, 4, True, True, found])

    def test_not_over_struck_lines_alone(self):
        deeds = [("put", "a"), ("put", ""), ("strike", 0), ("strike", 1), ("ask", ("not", ("word", "x")))]
        check(self, answers, deeds, [0, 1, True, True, []])


if __name__ == "__main__":
    unittest.main()
