"""What a partner ALONE or BESIDE may do with two PARTS, and what it SEES of them.

What it does with both at once is a couple: the former with the one PART, the latter with the other one. What a
call of an import gives is ("reply", raw) or ("failed", word), with left RAWS and WORDS, or ("wait",).
"""

from besidealone.likeness import likeness, lot_with
from besidealone.sides import has, raws_of
from besidealone.tables import THING, begin_of, faces, into_word, led, out_word, twice

WAIT = ("wait",)


class Sight:
    """A partner at a WHERE: what it may do, and what it SEES."""

    def __init__(self, left, right, table, where):
        is_alone = where == "alone"
        side = left if is_alone else right
        failing, imports, again, handles = table[3]
        is_live = is_alone or imports == "live"
        self.faces = faces(table)
        self.inner = table[2][4]
        self.sees_fails = has(side, "catch") and (is_alone or failing == "crosses")
        # Whether a FAIL of an INNER call that is not SEEN makes the import FAIL that waits.
        self.passes_fails = is_alone or failing == "crosses"
        self.calls_again = has(side, "again") and is_live and (is_alone or again == "let")
        self.remembers = self.faces[1] == () or (has(side, "keep") and is_live)
        self.may_wait = is_live or failing == "stops"
        # Whether it can tell that a thing came once more.
        self.tells_things = has(side, "same") and (is_alone or handles == "kept") and twice(left, table)
        # For each WORD what is SEEN of a FAIL by it, and the WORD by which an import FAILS if an INNER call does so by
        # this one and nobody catches it.
        self.word_signs = {}
        self.back = {}
        # For each export couples of what it is called with, and what is SEEN of each RAW that it answers.
        self.calls = {}
        self.answers = {}
        # For each import what it is asked with on the side of the partner, and what is SEEN of this.
        self.asked = {}
        self.asks = {}
        # For each import what a call of it may give, as lots of what is ALIKE: with both PARTS at once, and with one
        # PART alone.
        self.narrow = {}
        self.broad = {}
        lots = dict(likeness(side))
        if is_alone:
            fill_alone(self, left, lots)
        else:
            fill_beside(self, left, right, table, lots)
        # All couples of what a call of an import may give with both PARTS.
        self.replies = {name: couples_of(self.narrow[name]) for name in self.narrow}


def fill_alone(sight, left, lots):
    """Puts into the Sight what a partner ALONE does and SEES, by the CLASSES of the left SIDE."""
    words = raws_of(left, "word")
    sight.word_signs = {word: lot_with(lots["word"], word) for word in words}
    sight.back = {word: word for word in words}
    failing = [(("failed", word),) for word in words]
    broad_failing = [tuple([("failed", word) for word in lot]) for lot in lots["word"]]
    for name, takes, answers in sight.faces[0]:
        sight.calls[name] = [] if takes == "thing" else [(raw, raw) for raw in raws_of(left, takes)]
        sight.answers[name] = {} if answers == "thing" else signs(left, lots, answers)
    for name, takes, answers in sight.faces[1]:
        sight.asked[name] = {raw: raw for raw in raws_of(left, takes)}
        sight.asks[name] = signs(left, lots, takes)
        sight.narrow[name] = [(("reply", raw),) for raw in raws_of(left, answers)] + failing
        sight.broad[name] = [tuple([("reply", raw) for raw in lot]) for lot in lots[answers]] + broad_failing


def signs(side, lots, kind):
    """A dict from the RAWS of a KIND to their CLASSES."""
    return {raw: lot_with(lots[kind], raw) for raw in raws_of(side, kind)}


def fill_beside(sight, left, right, table, lots):
    """Puts into the Sight what a partner BESIDE does and SEES, by the CLASSES of the right SIDE."""
    out = {word: out_word(left, table, word) for word in raws_of(left, "word")}
    sight.word_signs = {word: lot_with(lots["word"], out[word]) for word in out}
    sight.back = {word: into_word(right, table, out[word]) for word in out}
    failing = []
    if table[3][0] == "crosses":
        failing = [tuple(sorted({("failed", into_word(right, table, word)) for word in lot})) for lot in lots["word"]]
    for name, into, back in table[0]:
        sight.calls[name] = [] if into == THING else couples_of([led_lot(right, into, lot) for lot in lots[into[0]]])
        sight.answers[name] = {} if back == THING else led_signs(left, back, lots)
    for name, back, into in table[1]:
        sight.asked[name] = {raw: led(left, back, raw) for raw in raws_of(left, begin_of(back))}
        sight.asks[name] = led_signs(left, back, lots)
        found = [led_lot(right, into, lot) for lot in lots[into[0]]]
        replies = [tuple([("reply", raw) for raw in lot]) for lot in found if lot != ()]
        refused = [(("failed", table[2][2]),)] if () in found else []
        sight.narrow[name] = replies + refused + failing
        sight.broad[name] = sight.narrow[name]


def led_lot(side, way, lot):
    """All RAWS to which a WAY leads the RAWS of a CLASS, () if they are REFUSED."""
    return tuple(sorted({led(side, way, raw) for raw in lot if led(side, way, raw) != ""}))


def led_signs(side, way, lots):
    """A dict from the RAWS where a WAY begins to the CLASSES of those to which it leads them."""
    return {raw: lot_with(lots[way[1]], led(side, way, raw)) for raw in raws_of(side, way[0])}


def couples_of(lots):
    """All couples of two members of one of these lots, each once."""
    return sorted({(one, other) for lot in lots for one in lot for other in lot})


def sign_of(sight, outcome, is_inner):
    """What is SEEN when the body of an export does this; all that ends alike is one."""
    head = outcome[0]
    if head == "answer":
        answers = sight.answers[outcome[3]]
        # A thing is SEEN to have come; which one isn't.
        return ("answer", answers[outcome[1]]) if answers else ("thing",)
    if head == "ask":
        return ("ask", outcome[1], sight.asks[outcome[1]][outcome[2]])
    if head == "fails" and sight.sees_fails:
        return ("fails", sight.word_signs[outcome[1]])
    if head == "fails" and is_inner and sight.passes_fails:
        return ("unseen",)
    return ("ends",)
