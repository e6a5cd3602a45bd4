"""Papers of likeness, told once more: each row of replies and INNER calls is played from its begin, up to a length."""

import itertools

from besidealone.tables import faces
from tests.reference_faults import THING, Alike
from tests.reference_runs import Answered, Ended, Failed, Scope, Thing, World, led


class Makers(World):
    """A world whose things know which call made them."""

    def __init__(self, most):
        super().__init__(most)
        self.maker = "main"

    def make(self, content):
        found = super().make(content)
        found.maker = self.maker
        return found


def old(content):
    found = Thing(None, content)
    found.maker = "old"
    return found


def state_of(cells):
    return tuple([() if cell is None else cell.content if isinstance(cell, Thing) else cell for cell in cells.values()])


class Judge:
    """A partner at a WHERE, and two PARTS; most is how many replies and INNER calls stand in a row."""

    # What is told of a PART that goes on for ever, or for too long, behind so many STEPS.
    ends = {"ever": ("ends",), "on": ("ends",)}
    steps = 3000

    def __init__(self, left, right, table, where, parts, most):
        self.left, self.right, self.table, self.parts, self.most = left, right, table, parts, most
        self.alone = where == "alone"
        side = left if self.alone else right
        self.mine, self.theirs = Alike(left), Alike(right)
        self.alike = self.mine if self.alone else self.theirs
        self.failing, imports, again, handles = table[3]
        live = self.alone or imports == "live"
        self.crosses = self.alone or self.failing == "crosses"
        self.sees_fails = "catch" in side[2] and self.crosses
        self.again = "again" in side[2] and live and (self.alone or again == "let")
        self.remembers = not table[1] or ("keep" in side[2] and live) or any(part[0] for part in parts)
        self.waits = self.alone or not (imports == "tabled" and self.failing == "crosses")
        twice = any(into == out == THING for _, into, out in table[0]) or (
            "keep" in left[2] and any(out == THING for _, _, out in table[0]))
        self.marks = twice and "same" in side[2] and (self.alone or handles == "kept")
        self.exports, self.imports = faces(table)
        self.states, self.tokens, self.grows = set(), set(), True

    # What the partner does.

    def led_couples(self, way):
        """Couples of left RAWS, and () where it REFUSES, by couples of ALIKE right RAWS."""
        raws = dict(self.right[0])[way[0]]
        return {(led(self.right, way, one), led(self.right, way, other)) for one, other in itertools.product(raws, repeat=2)
                if self.theirs(way[0], one, other)}

    def sent(self, face):
        at = [row[0] for row in self.exports].index(face)
        takes = self.exports[at][1]
        if takes == "thing":
            return sorted(self.tokens)
        if self.alone:
            return [(raw, raw) for raw in dict(self.left[0])[takes]]
        return sorted(couple for couple in self.led_couples(self.table[0][at][1]) if "" not in couple)

    def fails(self):
        if self.alone:
            return [(word, word) for word in dict(self.left[0])["word"]]
        way = ("word", "word", self.table[2][1])
        return sorted(self.led_couples(way)) if self.crosses else []

    def replies(self, face):
        at = [row[0] for row in self.imports].index(face)
        if self.alone:
            found = [(raw, raw) for raw in dict(self.left[0])[self.imports[at][2]]]
            refused = []
        else:
            couples = self.led_couples(self.table[1][at][2])
            found = sorted(couple for couple in couples if "" not in couple)
            refused = [(self.table[2][2],) * 2] if ("", "") in couples else []
        told = [tuple([("got", "reply", raw) for raw in couple]) for couple in found]
        return told + [tuple([("got", "failed", word) for word in couple]) for couple in refused + self.fails()]

    # What a PART does.

    def play(self, which, state, face, given, script):
        """What a PART does behind a row; the last INNER call's end, if the row ends with one."""
        part = self.parts[which]
        world = Makers(self.steps)
        cells = {}
        for (name, kind, _), value in zip(part[0], state):
            cells[name] = (old(value) if value else None) if kind == "thing" else value
        going, event = self.begun(world, part, cells, face, given)
        for item in script:
            if item[0] == "got":
                send, value = (going.send, item[2]) if item[1] == "reply" else (going.throw, Failed(item[2]))
                event = self.advance(send, value)
                told = event
            else:
                world.maker = "inner"
                inner, told = self.begun(world, part, cells, item[1], item[2])
                while told[0] == "ask":
                    told = self.advance(inner.throw, Failed(self.table[2][4]))
                fresh = told[0] == "answer" and isinstance(told[1], Thing) and told[1].maker == "inner"
                for cell in cells.values():
                    if isinstance(cell, Thing) and cell.maker == "inner":
                        cell.maker = "old"
                world.maker = "main"
                if told[0] == "answer" and isinstance(told[1], Thing):
                    told = ("answer", told[1].content, fresh)
        if not script:
            told = event
        if told[0] == "answer" and isinstance(told[1], Thing):
            told = ("answer", told[1].content, told[1].maker == "main")
        return told, state_of(cells)

    def begun(self, world, part, cells, face, given):
        at = [row[0] for row in self.exports].index(face)
        scope = Scope(world, self.left, part[0], cells, part[1][at], old(given) if isinstance(given, tuple) else given)
        going = scope.block(scope.statements)
        return going, self.advance(going.send, None)

    def advance(self, send, value):
        try:
            return ("ask",) + send(value)
        except Answered as error:
            return "answer", error.args[0]
        except Failed as error:
            return "fails", error.args[0]
        except StopIteration:
            return ("ends",)
        except Ended as error:
            return self.ends[error.args[0]]

    # What is SEEN.

    def out(self, word):
        return word if self.alone else led(self.left, ("word", "word", self.table[2][0]), word)

    def back(self, word):
        return word if self.alone else led(self.right, ("word", "word", self.table[2][1]), self.out(word))

    def same(self, face, inner, one, other):
        """Whether the same is SEEN of both PARTS."""
        one, other = self.sight(one, inner), self.sight(other, inner)
        if one[0] != other[0]:
            return False
        if one[0] == "fails":
            return self.alike("word", self.out(one[1]), self.out(other[1]))
        if one[0] == "ask" and one[1] != other[1]:
            return False
        if one[0] in ("ask", "answer") and isinstance(one[-1] if one[0] == "ask" else one[1], str):
            rows, place, raws = (self.imports, 1, (one[2], other[2])) if one[0] == "ask" else (self.exports, 2, (one[1], other[1]))
            at = [row[0] for row in rows].index(one[1] if one[0] == "ask" else face)
            if self.alone:
                return self.mine(rows[at][place], *raws)
            way = self.table[1][at][1] if one[0] == "ask" else self.table[0][at][2]
            return self.theirs(way[1], led(self.left, way, raws[0]), led(self.left, way, raws[1]))
        return True

    def sight(self, told, inner):
        if told[0] == "fails" and not self.sees_fails:
            return ("unseen",) if inner and self.crosses else ("ends",)
        return told

    # The PAPER.

    def has(self, lot, thing):
        """Whether something is in the PAPER, or is put there."""
        if thing not in lot and self.grows:
            lot.add(thing)
            self.grown = True
        return thing in lot

    def takes(self, told):
        """Whether a thing that is answered with both PARTS may be."""
        if self.marks and not (told[0][2] and told[1][2]):
            return False
        return self.has(self.tokens, (told[0][1], told[1][1]))

    def least(self):
        """The least PAPER, None if there is none, as far as rows are looked at."""
        self.grows, self.grown = True, True
        self.states = {tuple([tuple([() if kind == "thing" else raw for _, kind, raw in part[0]]) for part in self.parts])}
        self.tokens = set()
        while self.grown:
            self.grown = False
            if not self.holds():
                return None
        return tuple(sorted(self.states)), tuple(sorted(self.tokens))

    def judge(self, thing):
        """Whether a couple of states and tokens of the right form is a PAPER."""
        self.grows = False
        self.states, self.tokens = set(thing[0]), set(thing[1])
        first = tuple([tuple([() if kind == "thing" else raw for _, kind, raw in part[0]]) for part in self.parts])
        return first in self.states and self.holds()

    def holds(self):
        for couple in sorted(self.states):
            for face, _, _ in self.exports:
                for given in self.sent(face):
                    if self.remembers and not self.walk(couple, face, given, ((), ()), self.most):
                        return False
                    if not self.remembers and not self.choose(face, given, {}):
                        return False
        return self.remembers or self.inner_tokens()

    def both(self, couple, face, given, scripts):
        found = [self.play(which, couple[which], face, given[which], scripts[which]) for which in (0, 1)]
        return [told for told, _ in found], tuple([state for _, state in found])

    def walk(self, couple, face, given, scripts, most):
        """Main's call, behind a row of replies and INNER calls the last one of which is a reply."""
        told, states = self.both(couple, face, given, scripts)
        if not self.same(face, False, *told):
            return self.stays_away(told, [self.comes_back(which, couple[which], face, given[which], scripts[which], (),
                                                          told[which], most) for which in (0, 1)])
        head = self.sight(told[0], False)[0]
        if head in ("ends", "on"):
            return True
        if head == "ask":
            return self.wait(couple, face, given, scripts, told[0][1], most)
        if len(told[0]) == 3 and not self.takes(told):
            return False
        return self.has(self.states, states)

    def wait(self, couple, face, given, scripts, name, most):
        """An import waits."""
        if most == 0:
            return True
        for got in self.replies(name):
            if not self.walk(couple, face, given, tuple([scripts[which] + (got[which],) for which in (0, 1)]), most - 1):
                return False
        for inner, _, _ in self.exports if self.again else ():
            for values in self.sent(inner):
                new = tuple([scripts[which] + (("inner", inner, values[which]),) for which in (0, 1)])
                told, _ = self.both(couple, face, given, new)
                if not self.same(inner, True, *told):
                    backs = [self.inner_back(which, couple[which], face, given[which], new[which], (), told[which], most - 1)
                             for which in (0, 1)]
                    behind = [self.behind(which, couple[which], face, given[which], new[which], told[which]) for which in (0, 1)]
                    if not self.stays_away(behind, backs):
                        return False
                    continue
                head = self.sight(told[0], True)[0]
                if head == "unseen":
                    fails = tuple([new[which] + (("got", "failed", self.back(told[which][1])),) for which in (0, 1)])
                    if not self.walk(couple, face, given, fails, most - 1):
                        return False
                elif head not in ("ends", "on"):
                    if len(told[0]) == 3 and not self.takes(told):
                        return False
                    if not self.wait(couple, face, given, new, name, most - 1):
                        return False
        return True

    def stays_away(self, told, backs):
        """Whether there may be a PAPER where not the same is SEEN; told is what both do, backs whether they come back."""
        return not any(backs)

    def behind(self, which, state, face, given, script, told):
        """What a PART does behind an INNER call, by itself if its FAIL isn't SEEN."""
        if self.sight(told, True)[0] != "unseen":
            return told
        return self.play(which, state, face, given, script + (("got", "failed", self.back(told[1])),))[0]

    def comes_back(self, which, state, face, given, script, came, told, most):
        """Whether a PART alone comes back to main behind what it does in main's call."""
        if told[0] == "answer" or (told[0] == "fails" and self.sees_fails):
            return True
        return told[0] == "ask" and self.waits_back(which, state, face, given, script, came, told[1], most)

    def waits_back(self, which, state, face, given, script, came, name, most):
        if most == 0:
            return False
        for got in sorted({couple[which] for couple in self.replies(name)}):
            told, _ = self.play(which, state, face, given, script + (got,))
            if self.comes_back(which, state, face, given, script + (got,), came, told, most - 1):
                return True
        for inner, takes, _ in self.exports if self.again else ():
            values = {couple[which] for couple in self.sent(inner)} | (set(came) if takes == "thing" else set())
            for value in sorted(values):
                new = script + (("inner", inner, value),)
                told, _ = self.play(which, state, face, given, new)
                if self.inner_back(which, state, face, given, new, came, told, most - 1, name):
                    return True
        return False

    def inner_back(self, which, state, face, given, script, came, told, most, name=None):
        """The same behind an INNER call."""
        head = self.sight(told, True)[0]
        if head == "unseen":
            new = script + (("got", "failed", self.back(told[1])),)
            told, _ = self.play(which, state, face, given, new)
            return self.comes_back(which, state, face, given, new, came, told, most)
        if head in ("ends", "on"):
            return False
        if len(told) == 3:
            came = came + (told[1],)
        if name is None:
            begin = [at for at, item in enumerate(script) if item[0] == "got"]
            name = self.play(which, state, face, given, script[:begin[-1] + 1] if begin else ())[0][1]
        return self.waits_back(which, state, face, given, script, came, name, most)

    # Without a memory.

    def inner_tokens(self):
        for face, _, _ in self.exports if self.again else ():
            for values in self.sent(face):
                told = [self.inner_alone(which, face, values[which]) for which in (0, 1)]
                if self.same(face, True, *told) and len(told[0]) == 3 and not self.takes(told):
                    return False
        return True

    def inner_alone(self, which, face, value):
        """What an INNER call does with a PART that has no cells."""
        world, part = Makers(self.steps), self.parts[which]
        going, told = self.begun(world, part, {}, face, value)
        while told[0] == "ask":
            told = self.advance(going.throw, Failed(self.table[2][4]))
        if told[0] == "answer" and isinstance(told[1], Thing):
            return "answer", told[1].content, told[1].maker == "main"
        return told

    def asked(self, name, raw):
        if self.alone:
            return raw
        return led(self.left, [row[1] for row in self.table[1] if row[0] == name][0], raw)

    def group(self, name, raw):
        """The CLASS of what an import is asked with, on the side of the partner."""
        at = [row[0] for row in self.imports].index(name)
        kind = self.imports[at][1] if self.alone else self.table[1][at][1][1]
        side = self.left if self.alone else self.right
        return name, min(other for other in dict(side[0])[kind] if self.alike(kind, raw, other))

    def options(self, name):
        """All couples of sets of what an import may do with one and with other, for one CLASS of what it is asked."""
        at = [row[0] for row in self.imports].index(name)
        singles = {which: set() for which in (0, 1)}
        if self.alone:
            plain = [frozenset([got]) for couple in self.replies(name) for got in couple]
            broad = []
            for head, kind in (("reply", self.imports[at][2]), ("failed", "word")):
                raws = dict(self.left[0])[kind]
                broad += [frozenset([("got", head, other) for other in raws if self.mine(kind, raw, other)]) for raw in raws]
        else:
            way = self.table[1][at][2]
            plain = []
            for raw in dict(self.right[0])[way[0]]:
                ends = {led(self.right, way, other) for other in dict(self.right[0])[way[0]] if self.theirs(way[0], raw, other)}
                plain.append(frozenset([("got", "failed", self.table[2][2]) if end == "" else ("got", "reply", end) for end in ends]))
            if self.crosses:
                way = ("word", "word", self.table[2][1])
                for word in dict(self.right[0])["word"]:
                    plain.append(frozenset([("got", "failed", led(self.right, way, other)) for other in dict(self.right[0])["word"]
                                            if self.theirs("word", word, other)]))
            broad = plain
        waiting = [frozenset(["wait"])] if self.waits else []
        found = {(lot, lot) for lot in plain + waiting}
        for face, _, _ in self.exports if self.again else ():
            for values in self.sent(face):
                told = [self.inner_alone(which, face, values[which]) for which in (0, 1)]
                heads = [self.sight(one, True)[0] for one in told]
                if self.same(face, True, *told) and heads[0] != "unseen":
                    continue
                lots = []
                for which in (0, 1):
                    if heads[which] == "unseen":
                        lots.append([frozenset([("got", "failed", self.back(told[which][1]))])])
                    else:
                        lots.append({"ends": [frozenset(["wait"])], "on": [frozenset(["on"])]}.get(heads[which], broad + waiting))
                found |= set(itertools.product(*lots))
        del singles
        return sorted(found, key=repr)

    def choose(self, face, given, choice):
        """Whether the same is SEEN for all choices that go on from this one."""
        told = []
        for which in (0, 1):
            script = ()
            while True:
                now, _ = self.play(which, (), face, given[which], script)
                if now[0] != "ask" or len(script) > 12:
                    break
                raw = self.asked(now[1], now[2])
                key = (which, now[1], raw)
                if key not in choice:
                    group = self.group(now[1], raw)
                    for option in [choice[group]] if group in choice else self.options(now[1]):
                        for got in sorted(option[which], key=repr):
                            if not self.choose(face, given, {**choice, group: option, key: got}):
                                return False
                    return True
                if choice[key] in ("wait", "on"):
                    now = ("ends",) if choice[key] == "wait" else self.ends["on"]
                    break
                script += (choice[key],)
            told.append(self.ends["on"] if now[0] == "ask" else now)
        if not self.same(face, False, *told):
            return self.stays_away(told, [one[0] == "answer" or (one[0] == "fails" and self.sees_fails) for one in told])
        return len(told[0]) != 3 or told[0][0] != "answer" or self.takes(told)
