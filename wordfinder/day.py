"""A day: deeds that are done one by one, from an empty shelf on."""

from wordfinder.shelf import Shelf, found_by


def answer_to(shelf, deed):
    """Does the deed on the shelf, and tells its answer."""
    kind = deed[0]
    if kind == "put":
        return shelf.put(deed[1])
    if kind == "strike":
        return shelf.strike(deed[1])
    return found_by(shelf, deed[1])


def answers(deeds):
    """The answers of a day."""
    shelf = Shelf()
    return [answer_to(shelf, deed) for deed in deeds]


def index_behind(deeds):
    """The index of the shelf behind a day."""
    shelf = Shelf()
    for deed in deeds:
        answer_to(shelf, deed)
    return shelf.index_by_word()
