"""A shelf of lines, and the lines on it that meet a question."""

from wordfinder.merging import in_both, in_either, in_first
from wordfinder.words import are_in_row, are_near, words_of


class Shelf:
    """The lines that are kept, with the places of their words."""

    def __init__(self):
        self.given = 0
        # The words of each kept line, by its number. A line without words stands here alone.
        self.kept = {}
        # For each word of a kept line, its places in each line in which it stands, by the line's number.
        self.places = {}

    def put(self, line):
        """Keeps the line, and answers its number."""
        number = self.given
        self.given = number + 1
        words = words_of(line)
        self.kept[number] = words
        for place, word in enumerate(words):
            lines = self.places.setdefault(word, {})
            lines.setdefault(number, []).append(place)
        return number

    def strike(self, number):
        """Keeps the line with the number no more; False where none such is kept."""
        if number not in self.kept:
            return False
        words = self.kept.pop(number)
        for word in sorted(set(words)):
            lines = self.places[word]
            lines.pop(number)
            # A word that stands in no kept line has no part in the index.
            if len(lines) == 0:
                self.places.pop(word)
        return True

    def numbers(self):
        """The row of the numbers of all kept lines."""
        return sorted(self.kept)

    def numbers_with(self, words):
        """The row of the numbers of the kept lines in which each of the words stands."""
        numbers = self.numbers()
        for word in words:
            numbers = in_both(numbers, sorted(self.places.get(word, {})))
        return numbers

    def places_in(self, number, word):
        """The row of the places of a word in a line in which it stands."""
        return list(self.places[word][number])

    def lines_with(self, word):
        """A tuple of number and places for each kept line in which the word stands, the numbers rising."""
        return [(number, self.places_in(number, word)) for number in self.numbers_with([word])]

    def index_by_word(self):
        """A tuple of word and lines for each word that stands in a kept line, in the order of the words."""
        return [(word, self.lines_with(word)) for word in sorted(self.places)]


def found_near(shelf, one, other, many):
    """The row of the numbers of the lines in which the two words are near one another."""
    found = []
    for number in shelf.numbers_with([one, other]):
        if are_near(shelf.places_in(number, one), shelf.places_in(number, other), many):
            found.append(number)
    return found


def found_in_row(shelf, words):
    """The row of the numbers of the lines in which the words stand one behind the other."""
    found = []
    for number in shelf.numbers_with(words):
        if are_in_row([shelf.places_in(number, word) for word in words]):
            found.append(number)
    return found


def found_by(shelf, question):
    """What is found by a question: the row of the numbers of all kept lines that meet it."""
    kind = question[0]
    if kind == "word":
        return shelf.numbers_with([question[1]])
    if kind == "near":
        return found_near(shelf, question[1], question[2], question[3])
    if kind == "row":
        return found_in_row(shelf, question[1])
    if kind == "and":
        return in_both(found_by(shelf, question[1]), found_by(shelf, question[2]))
    if kind == "or":
        return in_either(found_by(shelf, question[1]), found_by(shelf, question[2]))
    return in_first(shelf.numbers(), found_by(shelf, question[1]))
