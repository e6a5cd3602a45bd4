"""What the tests share: values of any kind, values with one thing changed, calls asked twice."""

import itertools

from besidealone.errors import MixedError, NoText, Wrong
from besidealone.lines import Lines

# Values of every kind that a callable which takes any value has to bear.
ANY = (
    None, True, False, 0, 1, -7, 10 ** 39, "", " ", "a", "A", "a b", "a-b", "thing", "yes", "no", "truth", "word",
    "hole", "a" * 12, "a" * 13, "a\nb", "~", (), [], {}, ("a",), ["a"], {"a": 1}, {"a": "b"}, (None,), (True,), (0,),
    ((),), [[]], ((), ()), ((), (), ()), ((), (), (), ()), [(), (), ()], [(), (), (), ()], ("hole",), ["hole"],
    ("truth", ("no", "yes")), ["truth", ["no", "yes"]], {"truth": ("no", "yes")}, MixedError("a"), NoText(1),
    Wrong([1]), Lines("a\nb"), {1: {2: {3: [4, (5,)]}}}, tuple(range(3000)), ("a",) * 3000, "a" * 4000,
)


def nested(depth, inner=()):
    """A tuple of one, so many deep."""
    thing = inner
    for _ in range(depth):
        thing = (thing,)
    return thing


JUNK = (None, True, 0, "", "x", "thing", "Word", (), ("x",), [], {})


def changed_here(thing):
    """The value with one thing exchanged, left out, twice, added or turned at its top."""
    for junk in JUNK:
        yield junk
    if isinstance(thing, str):
        yield from (thing + "z", thing.upper(), (thing,), [thing], {thing: thing})
    if isinstance(thing, tuple):
        yield list(thing)
        yield dict(enumerate(thing))
        yield thing[::-1]
        yield (thing,)
        for at, item in enumerate(thing):
            yield thing[:at] + thing[at + 1:]
            yield thing[:at] + (item, item) + thing[at + 1:]
        for at in range(len(thing) - 1):
            yield thing[:at] + (thing[at + 1], thing[at]) + thing[at + 2:]
        for one, other in itertools.permutations(range(len(thing)), 2):
            yield thing[:one] + (thing[other],) + thing[one + 1:]
        for junk in JUNK + ("again", "zz"):
            yield thing + (junk,)
            yield (junk,) + thing


def changed(thing, words=()):
    """The value with one thing changed at any depth; strings are also exchanged with each of the words."""
    yield from changed_here(thing)
    if isinstance(thing, str):
        yield from words
    if isinstance(thing, tuple):
        for at, item in enumerate(thing):
            for new in changed(item, words):
                yield thing[:at] + (new,) + thing[at + 1:]


def strings_in(thing):
    """All strings in nested tuples."""
    if isinstance(thing, str):
        return {thing}
    return set().union(*[strings_in(item) for item in thing])


def asked(test, function, *given):
    """What a function returns; that it returns it again, and that it changes nothing, is tested."""
    before = repr(given)
    found = function(*given)
    again = function(*given)
    test.assertEqual(repr(found), repr(again))
    test.assertEqual(repr(given), before)
    return found


def assert_tells(test, function, given, thing, want):
    """A function that tells of any value, the last argument, tells True, or False, and nothing else."""
    test.assertIs(asked(test, function, *given, thing), want, (function.__name__, given, thing))


def assert_line(test, line, function, *given):
    """A function raises NoText with this line."""
    before = repr(given)
    with test.assertRaises(NoText, msg=given[-1]) as caught:
        function(*given)
    test.assertEqual(caught.exception.line, line, given[-1])
    test.assertIs(type(caught.exception.line), int)
    test.assertEqual(repr(given), before)


def assert_wrong(test, place, function, *given):
    """A function raises Wrong with this place."""
    before = repr(given)
    with test.assertRaises(Wrong, msg=repr(given)[:200]) as caught:
        function(*given)
    test.assertEqual(caught.exception.place, place)
    test.assertEqual(repr(given), before)
