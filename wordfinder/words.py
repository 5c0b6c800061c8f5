"""The words of a line, and how their places lie to one another."""

from wordfinder.merging import in_both


def is_letter(sign):
    """True where a sign is one of the letters that make words."""
    return "a" <= sign <= "z"


def words_of(line):
    """The words of a line, in their order."""
    words = []
    start = 0
    # The blank closes a word that goes on up to the line's end.
    for at, sign in enumerate(line + " "):
        if not is_letter(sign):
            if start < at:
                words.append(line[start:at])
            start = at + 1
    return words


def follow_closely(ones, others, many):
    """True where a number of the other row is greater than one of the first row, by `many` at most."""
    smaller = 0
    for other in others:
        while smaller < len(ones) and ones[smaller] < other:
            smaller = smaller + 1
        # Of the smaller numbers, the last one is the nearest: no other needs a look.
        if smaller > 0 and other - ones[smaller - 1] <= many:
            return True
    return False


def are_near(ones, others, many):
    """True where a number of the one row and a different one of the other row differ by `many` at most."""
    return follow_closely(ones, others, many) or follow_closely(others, ones, many)


def are_in_row(rows):
    """True where for some number n the first row has n, the second one n + 1, and so on up to the last."""
    # Without a row, nothing is asked of n.
    if len(rows) == 0:
        return True
    starts = rows[0]
    for step, row in enumerate(rows):
        starts = in_both(starts, [number - step for number in row])
    return len(starts) > 0
