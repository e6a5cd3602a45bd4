"""A House of PARTS, and of PARTNERS on either side, between two SIDES and with a TABLE."""

from besidealone.alone import run_alone
from besidealone.beside import run_beside
from besidealone.breaks import parted_by
from besidealone.compared import compared
from besidealone.errors import NoName, Nothing, Wrong
from besidealone.faithful import faithful_faults
from besidealone.forms import is_integer, is_name
from besidealone.programs import is_part, is_partner
from besidealone.sides import is_side
from besidealone.tables import faces, is_level, is_passable, is_table, right_faces
from besidealone.tight import tight_faults

WHERES = ("alone", "beside")
# The most STEPS that a run of a House is asked for.
MOST = 20000


def need(place, good):
    """Raises Wrong for an argument that is not as described."""
    if not good:
        raise Wrong(place)


def is_most(thing):
    """Whether any value is a number of STEPS."""
    return is_integer(thing) and 0 <= thing <= MOST


class House:
    """Two SIDES, a TABLE, and programs under their NAMES."""

    def __init__(self, left, right, table):
        need(0, is_side(left))
        need(1, is_side(right))
        need(2, is_table(left, right, table))
        self._left = left
        self._right = right
        self._table = table
        self._parts = {}
        self._partners = {"alone": {}, "beside": {}}
        # What each call that changed something has to be taken back to: the room, a NAME in it, and what stood there.
        self._elder = []

    def __eq__(self, other):
        if not isinstance(other, House):
            return False
        if self._left != other._left or self._right != other._right or self._table != other._table:
            return False
        return self._parts == other._parts and self._partners == other._partners

    def sides(self):
        """Both SIDES."""
        return (self._left, self._right)

    def table(self):
        """The TABLE."""
        return self._table

    def parts(self):
        """The PARTS by their NAMES."""
        return {name: self._parts[name] for name in sorted(self._parts)}

    def partners(self, where):
        """The PARTNERS at a WHERE by their NAMES."""
        need(0, where in WHERES)
        return {name: self._partners[where][name] for name in sorted(self._partners[where])}

    def twin(self):
        """A House that is equal, with all that can be taken back."""
        other = House(self._left, self._right, self._table)
        other._parts = self.parts()
        other._partners = {where: self.partners(where) for where in WHERES}
        other._elder = list(self._elder)
        return other

    def _room(self, word):
        """The programs of a sort: the PARTS, or the PARTNERS at a WHERE."""
        return self._parts if word == "part" else self._partners[word]

    def _put(self, word, name, program):
        """Has a program stand under a NAME, or, if it is None, none."""
        room = self._room(word)
        self._elder.append((word, name, room.get(name, None)))
        self._set(word, name, program)

    def _set(self, word, name, program):
        """The same, without a way back."""
        room = self._room(word)
        if program is None:
            del room[name]
        else:
            room[name] = program

    def put_part(self, name, part):
        """Has a PART under a NAME."""
        need(0, is_name(name))
        need(1, is_part(self._left, faces(self._table), part))
        self._put("part", name, part)

    def put_partner(self, where, name, partner):
        """Has a PARTNER under a NAME."""
        need(0, where in WHERES)
        need(1, is_name(name))
        if where == "alone":
            need(2, is_partner(self._left, faces(self._table), partner))
        else:
            need(2, is_partner(self._right, right_faces(self._table), partner))
        self._put(where, name, partner)

    def drop_part(self, name):
        """Takes a PART away."""
        need(0, is_name(name))
        need_name(self._parts, name)
        self._put("part", name, None)

    def drop_partner(self, where, name):
        """Takes a PARTNER away."""
        need(0, where in WHERES)
        need(1, is_name(name))
        need_name(self._partners[where], name)
        self._put(where, name, None)

    def exchange(self, table):
        """Exchanges the TABLE for one with the same FACES on either side."""
        need(0, is_table(self._left, self._right, table))
        need(0, have_same_faces(self._table, table))
        self._elder.append(("table", "", self._table))
        self._table = table

    def undo(self):
        """Takes back the last call that changed something."""
        if self._elder == []:
            raise Nothing()
        word, name, elder = self._elder.pop()
        if word == "table":
            self._table = elder
        else:
            self._set(word, name, elder)

    def run(self, where, part, partner, most):
        """The run of a PART with a PARTNER, both told by their NAMES."""
        need(0, where in WHERES)
        need(1, is_name(part))
        need(2, is_name(partner))
        need(3, is_most(most))
        need_name(self._parts, part)
        need_name(self._partners[where], partner)
        return self._run(where, part, partner, most)

    def _run(self, where, part, partner, most):
        """The same of NAMES that are there."""
        one, other = self._parts[part], self._partners[where][partner]
        if where == "alone":
            return run_alone(self._left, self._table, one, other, most)
        return run_beside(self._left, self._right, self._table, one, other, most)

    def ends(self, where, most):
        """The ends of the runs of all PARTS with all PARTNERS at a WHERE."""
        need(0, where in WHERES)
        need(1, is_most(most))
        found = {}
        for part in sorted(self._parts):
            for partner in sorted(self._partners[where]):
                found[part, partner] = self._run(where, part, partner, most)[0]
        return found

    def parted(self, where, most):
        """The couples of NAMES of PARTS that some PARTNER of the House parts within so many STEPS."""
        ends = self.ends(where, most)
        partners = list(self._partners[where])
        found = []
        for one in sorted(self._parts):
            for other in sorted(self._parts):
                found_by = [parted_by(ends[one, own], ends[other, own]) for own in partners]
                if one < other and any(found_by):
                    found.append((one, other))
        return tuple(found)

    def faults(self):
        """The FAULTS of the TABLE, None if it isn't PASSABLE and LEVEL."""
        if not is_passable(self._table) or not is_level(self._left, self._right, self._table):
            return None
        told = (self._left, self._right, self._table)
        return (tight_faults(*told), faithful_faults(*told))

    def compare(self, where, one, other):
        """What compared tells of two PARTS."""
        need(0, where in WHERES)
        need(1, is_name(one))
        need(2, is_name(other))
        need_name(self._parts, one)
        need_name(self._parts, other)
        if self.faults() is None or has_things(self._table):
            raise Nothing()
        return compared(self._left, self._right, self._table, where, self._parts[one], self._parts[other])


def need_name(room, name):
    """Raises NoName for a NAME under which nothing stands."""
    if name not in room:
        raise NoName(name)


def have_same_faces(one, other):
    """Whether two TABLES have the same FACES on either side."""
    return faces(one) == faces(other) and right_faces(one) == right_faces(other)


def has_things(table):
    """Whether some face of a TABLE takes or answers a thing."""
    return any(["thing" in row[1:] for row in faces(table)[0]])
