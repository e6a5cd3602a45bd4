"""BOOKS of rules for the counts of things and for the HANDLES to them."""

from besidealone.forms import is_integer, is_row

# The words that a BOOK may have: at its begin, and behind its four integers.
WAYS = ("fresh", "kept")
STRIKES = ("always", "never", "own")
FINDS = ("any", "live")
DRAINS = ("ahead", "behind")
HOLDS = ("address", "index")


def is_book(thing):
    """Whether any value is a BOOK."""
    if not is_row(9, thing) or thing[0] not in WAYS:
        return False
    if not all([is_integer(number) and number >= 0 for number in thing[1:5]]):
        return False
    return all([word in words for word, words in zip(thing[5:], (STRIKES, FINDS, DRAINS, HOLDS))])


def is_safe(book):
    """Whether no row of EVENTS goes WRONG with a BOOK."""
    way, up, more, down, home, strike, find, drain, hold = book
    if home != 1 or up != down or up < 1:
        return False
    if way == "fresh":
        return True
    if more != 0 or hold != "index":
        return False
    if drain == "ahead":
        return strike != "never" or find != "any"
    return find == "live" and strike != "always"
