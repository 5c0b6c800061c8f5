"""What the tests of every function share."""

import copy
import itertools


def call(case, function, *handed):
    """The function's answer, with a look that what was handed in is unchanged and the answer is the same again."""
    ahead = copy.deepcopy(handed)
    answer = function(*handed)
    case.assertEqual(handed, ahead, "what was handed in has changed")
    case.assertEqual(function(*handed), answer, "a second call answers otherwise")
    case.assertEqual(handed, ahead, "what was handed in has changed")
    return answer


def rows_within(numbers):
    """Every row that can be made of some of the rising numbers."""
    return [list(row) for size in range(len(numbers) + 1) for row in itertools.combinations(numbers, size)]


def check(case, function, handed, wanted):
    """The function answers what is wanted, of the very same kinds: 1 is not True here, and a tuple is no list."""
    answer = call(case, function, handed)
    case.assertEqual(answer, wanted)
    case.assertEqual(repr(answer), repr(wanted))
