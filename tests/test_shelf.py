import unittest

from wordfinder.shelf import Shelf, found_by


class OwnShelf(unittest.TestCase):
    def setUp(self):
        self.shelf = Shelf()
        self.shelf.put("a b a")
        self.shelf.put("")

    def check_as_before(self):
        self.assertEqual(self.shelf.index_by_word(), [("a", [(0, [0, 2])]), ("b", [(0, [1])])])
        self.assertEqual(found_by(self.shelf, ("not", ("word", "x"))), [0, 1])
        self.assertEqual(found_by(self.shelf, ("word", "a")), [0])

    def test_what_is_found_is_not_the_shelf_s_own(self):
        for question in (("word", "a"), ("not", ("word", "x")), ("row", ["a"]), ("near", "a", "b", 1)):
            found_by(self.shelf, question).append(9)
            self.check_as_before()

    def test_the_index_is_not_the_shelf_s_own(self):
        index = self.shelf.index_by_word()
        index[0][1][0][1].append(9)
        index[0][1].append((9, [9]))
        index.append(("z", []))
        self.check_as_before()

    def test_rows_of_the_shelf_are_not_its_own(self):
        self.shelf.numbers().append(9)
        self.shelf.places_in(0, "a").append(9)
        self.check_as_before()

    def test_two_shelves_share_nothing(self):
        other = Shelf()
        self.assertEqual(other.put("c"), 0)
        self.assertTrue(other.strike(0))
        self.assertFalse(other.strike(0))
        self.assertEqual(other.index_by_word(), [])
        self.check_as_before()

    def test_words_sought_in_vain_leave_no_trace(self):
        found_by(self.shelf, ("word", "x"))
        self.assertEqual(self.shelf.numbers_with(["x"]), [])
        self.assertEqual(self.shelf.lines_with("x"), [])
        self.check_as_before()


if __name__ == "__main__":
    unittest.main()
