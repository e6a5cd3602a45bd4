"""PARTNERS that play a row of what a partner does and gets, and say yes behind it.

Bodies of imports find out by cells, one for each turn, which turn it is: a turn is a call of main, an import's being
asked, or, if it calls again, its end.
"""

from besidealone.grounds import FOR_EVER, GIVEN, SAY_YES, YES, block_of
from besidealone.sides import has, kinds_of
from besidealone.telling import choice, filled

LETTERS = "abcdefghijklmnopqrstuvwxyz"
THING_NAME = "t"
WORD_NAME = "w"


def letters_of(number):
    """Letters that tell a number from 0 on."""
    found = LETTERS[number % 26]
    while number >= 26:
        number = number // 26
        found = LETTERS[number % 26] + found
    return found


class Ask:
    """The turn of an import that is being written."""

    def __init__(self, face, turn):
        self.face = face
        self.turn = turn
        self.statements = []
        self.calls_again = False
        # Whether a FAIL of an INNER call has ended the body.
        self.has_ended = False


class Script:
    """A PARTNER that is being written; it looks at one item of its row, told by its index, or, at -1, at all."""

    def __init__(self, side, told, row, only):
        self.side = side
        self.faces = told
        self.only = only
        self.answers = {name: answers for name, takes, answers in told[0]}
        self.takes = {name: takes for name, takes, answers in told[0] + told[1]}
        self.replies = {name: answers for name, takes, answers in told[1]}
        self.has_asks = any([item[0] == "ask" for item in row])
        self.kept = kept_receipts(side, row)
        self.choices = {}
        self.turns = 0
        self.main = []
        self.names = {"": {}}
        # For each import its turns, each with the number and the STATEMENTS.
        self.asks = {name: [] for name, takes, answers in told[1]}
        for name in self.asks:
            self.names[name] = {"given": self.takes[name]}
        # The import's turn that is open, and the calls that have not ended: face, argument, and the turn of main's.
        self.ask = None
        self.calls = []
        # For each thing that came the receipt by which it came first.
        self.firsts = {}
        self.receipts = 0

    def play(self, at, item):
        """Writes down one item of the row."""
        head = item[0]
        if head == "call":
            self.begin_call(item[1], item[2])
        elif head == "ask":
            self.begin_ask(at, item[1], item[2])
        elif head in ("reply", "fails"):
            self.end_ask(item)
        else:
            self.end_call(at, item)

    def rows_now(self):
        """The STATEMENTS that are being written."""
        return self.main if self.ask is None else self.ask.statements

    def variable(self, name, kind):
        """A variable, as an EXPRESSION, of the body that is being written."""
        self.names["" if self.ask is None else self.ask.face][name] = kind
        return ("name", name)

    def next_turn(self):
        """Begins a turn; returns its number."""
        if self.has_asks:
            self.rows_now().append(("put", turn_name(self.turns), YES))
        self.turns += 1
        return self.turns - 1

    def checks(self, at, kind, raw, expression):
        """STATEMENTS that go on for ever where an EXPRESSION gives no RAW ALIKE to this one."""
        if self.only not in (-1, at):
            return []
        if (kind, raw) not in self.choices:
            self.choices[kind, raw] = choice(self.side, kind, raw)
        return checks_by(self.choices[kind, raw], expression)

    def begin_call(self, face, argument):
        """Notes a call; it is written down when it is told how it ends."""
        if self.ask is None:
            turn = self.next_turn()
        else:
            turn = self.ask.turn
            self.ask.calls_again = True
        self.calls.append((face, argument, turn))

    def end_call(self, at, item):
        """Writes down a call that ends so."""
        face, argument, turn = self.calls.pop()
        if isinstance(argument, str):
            given = ("raw", self.takes[face], argument)
        else:
            given = self.receipt(argument)
        if item[0] == "gave":
            self.take_thing(at, item, ("call", THING_NAME, face, given))
        else:
            self.take_end(at, item, face, given)
        # If main's call comes back ahead of its last turn the PART has asked too seldom.
        if self.ask is None and self.has_asks and turn < self.turns - 1:
            self.main.append(("if", ("cell", turn_name(self.turns - 1)), (), (FOR_EVER,)))

    def take_end(self, at, item, face, given):
        """Writes down a call that answers a RAW, or that FAILS."""
        answers = self.answers[face]
        name = variable_for(self.side, answers)
        target = self.variable(name, answers)
        call = ("call", name, face, given)
        if item[0] == "answer":
            self.rows_now().append(self.answering(at, call))
            self.rows_now().extend(self.checks(at, answers, item[1], target))
        elif has(self.side, "catch"):
            word = self.variable(WORD_NAME, "word")
            self.rows_now().append(("try", (call, FOR_EVER), WORD_NAME, ()))
            self.rows_now().extend(self.checks(at, "word", item[1], word))
        else:
            # The FAIL goes through the body of the import.
            self.rows_now().extend([call, FOR_EVER])
            self.ask.has_ended = True

    def answering(self, at, call):
        """The STATEMENT for a call that has to answer."""
        if self.ask is None or self.only not in (-1, at) or not has(self.side, "catch"):
            return call
        # A FAIL that isn't caught here goes on to the PART, which may catch it and go on without an end.
        return going_on(call, self.variable(WORD_NAME, "word")[1])

    def receipt(self, number):
        """A thing that came, as an EXPRESSION."""
        name = "r" + letters_of(number)
        return ("cell", name) if self.has_asks else self.variable(name, "thing")

    def take_thing(self, at, item, call):
        """Writes down a call that answers a thing."""
        number = self.receipts
        self.receipts += 1
        if number in self.kept and not self.has_asks:
            target = self.receipt(number)
            self.rows_now().append(("call", target[1]) + call[2:])
        else:
            target = self.variable(THING_NAME, "thing")
            self.rows_now().append(self.answering(at, call))
        if number in self.kept and self.has_asks:
            self.rows_now().append(("put", self.receipt(number)[1], target))
        if self.only in (-1, at) and has(self.side, "same"):
            self.rows_now().extend(self.thing_checks(item[2], target))
        self.firsts.setdefault(item[2], number)

    def thing_checks(self, thing, target):
        """STATEMENTS that go on for ever where a thing that came is not just the one that it has to be."""
        if thing in self.firsts:
            return [("if", ("same", target, self.receipt(self.firsts[thing])), (), (FOR_EVER,))]
        elder = [self.receipt(number) for number in self.firsts.values()]
        return [("if", ("same", target, own), (FOR_EVER,), ()) for own in elder]

    def begin_ask(self, at, face, raw):
        """Begins the turn of an import."""
        self.ask = Ask(face, self.turns)
        self.next_turn()
        self.ask.statements.extend(self.checks(at, self.takes[face], raw, GIVEN))

    def end_ask(self, deed):
        """Ends the turn of an import."""
        ask = self.ask
        if not ask.has_ended:
            # Where an INNER call FAILS, by another PART, this turn doesn't come, and so no later one does.
            if ask.calls_again:
                self.next_turn()
            ask.statements.append(deed_statement(self.replies[ask.face], deed))
        self.asks[ask.face].append((ask.turn, tuple(ask.statements)))
        self.ask = None

    def written(self, bodies):
        """The PARTNER; bodies tells of imports whose bodies are others."""
        found = []
        for name, takes, answers in self.faces[1]:
            names, statements = bodies.get(name, (self.names[name], self.turns_of(name)))
            found.append(block_of(names, statements))
        return (self.all_cells(), block_of(self.names[""], self.main + [SAY_YES]), tuple(found))

    def all_cells(self):
        """The cells of the PARTNER."""
        if not self.has_asks:
            return ()
        rows = [(turn_name(turn), "truth", "no") for turn in range(self.turns)]
        return tuple(sorted(rows + [("r" + letters_of(number), "thing", "") for number in self.kept]))

    def turns_of(self, face):
        """The STATEMENTS of the body of an import that looks for its turn."""
        asks = self.asks[face]
        if asks == []:
            return ()
        return (("if", ("cell", turn_name(asks[-1][0])), (), first_open(asks)),)


def checks_by(chosen, expression):
    """STATEMENTS that go on for ever unless TERMS, with an EXPRESSION in the hole, have the truths beside them."""
    found = []
    for told, truth in chosen:
        blocks = ((), (FOR_EVER,)) if truth == "yes" else ((FOR_EVER,), ())
        found.append(("if", filled(told, expression)) + blocks)
    return found


def checks_for(side, kind, raw, expression):
    """STATEMENTS that go on for ever where an EXPRESSION gives no RAW ALIKE to this one."""
    return checks_by(choice(side, kind, raw), expression)


def going_on(call, name):
    """The STATEMENT that goes on for ever where a call FAILS, by a variable for the WORD."""
    return ("try", (call,), name, (FOR_EVER,))


def variable_for(side, kind):
    """The NAME of a variable of a KIND, or of things."""
    return THING_NAME if kind == "thing" else "x" + letters_of(kinds_of(side).index(kind))


def turn_name(turn):
    """The NAME of the cell of a turn."""
    return "c" + letters_of(turn)


def first_open(asks):
    """STATEMENTS that look for the first one of these turns whose cell is not put yet, and do it if it has come."""
    if len(asks) == 1:
        turn, statements = asks[0]
        return (("if", ("cell", turn_name(turn - 1)), statements, ()),)
    half = len(asks) // 2
    # The cells are put one behind the other: so half of what is left is ruled out by one.
    return (("if", ("cell", turn_name(asks[half - 1][0])), first_open(asks[half:]), first_open(asks[:half])),)


def deed_statement(kind, deed):
    """The STATEMENT of a body of an import by which it does a deed; kind is what it answers."""
    if deed[0] == "reply":
        return ("answer", ("raw", kind, deed[1]))
    return ("fail", ("raw", "word", deed[1]))


def kept_receipts(side, row):
    """The numbers of the receipts that are needed later: those handed over, and those that are asked for by same."""
    kept = {item[2]: True for item in row if item[0] == "call" and not isinstance(item[2], str)}
    if has(side, "same"):
        things = {}
        given = [item for item in row if item[0] == "gave"]
        for number, item in enumerate(given):
            if item[2] not in things:
                things[item[2]] = True
                kept[number] = True
    return kept


def played(side, told, row, only, bodies):
    """The PARTNER for a SIDE and its FACES that plays a row.

    It looks at one item, told by its index, or, at -1, at all. bodies tells of imports whose bodies are others: for
    each one its variables and its STATEMENTS.
    """
    script = Script(side, told, row, only)
    for at, item in enumerate(row):
        script.play(at, item)
    return script.written(bodies)
