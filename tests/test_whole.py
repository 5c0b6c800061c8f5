"""The whole program beside the document read word by word: many small days, line by line and place by place."""

import itertools
import random
import re
import unittest

from calling import check
from wordfinder.day import answers, index_behind


def pairs_of(line):
    """Each place of a line with its word."""
    return list(enumerate(re.findall("[a-z]+", line)))


def meets(line, question):
    kind, *parts = question
    pairs = pairs_of(line)
    if kind == "word":
        return any(word == parts[0] for place, word in pairs)
    if kind == "near":
        one, other, many = parts
        return any(
            (v, w) == (one, other) and place != elsewhere and abs(place - elsewhere) <= many
            for place, v in pairs for elsewhere, w in pairs
        )
    if kind == "row":
        return any([word for place, word in pairs[start:start + len(parts[0])]] == parts[0]
                   for start in range(len(pairs)))
    if kind == "and":
        return meets(line, parts[0]) and meets(line, parts[1])
    if kind == "or":
        return meets(line, parts[0]) or meets(line, parts[1])
    return not meets(line, parts[0])


def day_read_plainly(deeds):
    """The answers of a day, and the index behind it."""
    given, kept, told = 0, {}, []
    for kind, part in deeds:
        if kind == "put":
            kept[given] = part
            told.append(given)
            given += 1
        elif kind == "strike":
            told.append(kept.pop(part, None) is not None)
        else:
            told.append([number for number in range(given) if number in kept and meets(kept[number], part)])
    words = sorted({word for line in kept.values() for place, word in pairs_of(line)})
    index = []
    for word in words:
        lines = [(number, [place for place, w in pairs_of(kept[number]) if w == word]) for number in sorted(kept)]
        index.append((word, [(number, places) for number, places in lines if places]))
    return told, index


class Days:
    """Days made by chance, the same ones in every run."""

    def __init__(self, seed):
        self.chance = random.Random(seed)

    def text(self):
        return self.chance.choice(["a", "b", "c", "ab", "ba", "a", "b", "z", "", "A", "a b", "b1"])

    def line(self):
        parts = ["a", "b", "c", "ab", "ba", "z", "A", "aB", "b1", "it's", "", "-"]
        return self.chance.choice([" ", ", ", "  "]).join(self.chance.choices(parts, k=self.chance.randrange(8)))

    def question(self, depth):
        kinds = ["word", "near", "row"] + ["and", "or", "not"] * (depth > 0)
        kind = self.chance.choice(kinds)
        if kind == "word":
            return (kind, self.text())
        if kind == "near":
            return (kind, self.text(), self.text(), self.chance.choice([0, 1, 1, 2, 3, 10 ** 20]))
        if kind == "row":
            return (kind, [self.text() for part in range(self.chance.choice([1, 1, 2, 2, 3]))])
        if kind == "not":
            return (kind, self.question(depth - 1))
        return (kind, self.question(depth - 1), self.question(depth - 1))

    def deed(self):
        kind = self.chance.choice(["put", "put", "strike", "ask", "ask"])
        if kind == "put":
            return (kind, self.line())
        if kind == "strike":
            return (kind, self.chance.randrange(-2, 9))
        return (kind, self.question(5))

    def day(self):
        return [self.deed() for deed in range(self.chance.randrange(30))]


class Whole(unittest.TestCase):
    def check(self, deeds):
        told, index = day_read_plainly(deeds)
        check(self, answers, deeds, told)
        check(self, index_behind, deeds, index)

    def test_many_days(self):
        days = Days(5)
        for count in range(600):
            self.check(days.day())

    def test_every_short_day(self):
        deeds = [
            ("put", "a b"), ("put", ""), ("strike", 0), ("strike", 1), ("ask", ("word", "a")),
            ("ask", ("not", ("row", ["a", "b"]))),
        ]
        for size in range(5):
            for day in itertools.product(deeds, repeat=size):
                self.check(list(day))

    def test_every_short_line_and_question(self):
        lines = [" ".join(words) for size in range(5) for words in itertools.product("ab", repeat=size)]
        puts = [("put", line) for line in lines]
        rows = [list(words) for size in range(1, 4) for words in itertools.product(["a", "b", ""], repeat=size)]
        nears = [(v, w, many) for v in ("a", "b", "") for w in ("a", "b", "") for many in range(4)]
        asks = [("ask", ("row", row)) for row in rows] + [("ask", ("near",) + near) for near in nears]
        self.check(puts + asks)


if __name__ == "__main__":
    unittest.main()
