"""A desk: a House led by texts."""

from besidealone.back import brought_back
from besidealone.books import DRAINS, FINDS, HOLDS, STRIKES, WAYS
from besidealone.errors import NoCommand, NoName, Wrong
from besidealone.forms import is_name
from besidealone.heaps import wrong_row
from besidealone.house import MOST, WHERES, House, have_same_faces, need_name
from besidealone.likeness import classes
from besidealone.lines import words_of
from besidealone.mends import mode_mends
from besidealone.over import led_over
from besidealone.programtexts import read_part, read_partner, show_part, show_partner
from besidealone.sides import kinds_of
from besidealone.sidetexts import read_side, show_side
from besidealone.tables import faces, right_faces
from besidealone.tabletexts import read_table, show_table

FIGURES = ("0", "1", "2", "3", "4", "5", "6", "7", "8", "9")
SIDES = ("left", "right")
WISHES = ("tight", "faithful", "both")
MODE_NAMES = ("failing", "imports", "again", "handles")
DONE = ("done",)
UNASKED = ("unasked",)


def is_number(word):
    """Whether a word is a number of STEPS, as Python shows it."""
    if len(word) > len(str(MOST)) or not all([letter in FIGURES for letter in word]):
        return False
    return str(int(word)) == word and int(word) <= MOST


def side_at(house, where):
    """The SIDE of the PARTNERS at a WHERE, and its FACES."""
    left, right = house.sides()
    if where == "alone":
        return left, faces(house.table())
    return right, right_faces(house.table())


def do_part(house, words, text):
    """part NAME TEXT"""
    house.put_part(words[0], read_part(house.sides()[0], faces(house.table()), text))
    return DONE


def do_partner(house, words, text):
    """partner WHERE NAME TEXT"""
    side, told = side_at(house, words[0])
    house.put_partner(words[0], words[1], read_partner(side, told, text))
    return DONE


def do_drop_part(house, words, text):
    """drop part NAME"""
    house.drop_part(words[0])
    return DONE


def do_drop_partner(house, words, text):
    """drop partner WHERE NAME"""
    house.drop_partner(words[0], words[1])
    return DONE


def do_table(house, words, text):
    """table TEXT; None if the TABLE has other FACES"""
    left, right = house.sides()
    table = read_table(left, right, text)
    if not have_same_faces(house.table(), table):
        return None
    house.exchange(table)
    return DONE


def do_undo(house, words, text):
    """undo"""
    house.undo()
    return DONE


def do_show_side(house, words, text):
    """show side SIDE"""
    return show_side(house.sides()[SIDES.index(words[0])]).split("\n")


def do_show_table(house, words, text):
    """show table"""
    left, right = house.sides()
    return show_table(left, right, house.table()).split("\n")


def do_show_part(house, words, text):
    """show part NAME"""
    parts = house.parts()
    need_name(parts, words[0])
    return show_part(house.sides()[0], faces(house.table()), parts[words[0]]).split("\n")


def do_show_partner(house, words, text):
    """show partner WHERE NAME"""
    partners = house.partners(words[0])
    need_name(partners, words[1])
    side, told = side_at(house, words[0])
    return show_partner(side, told, partners[words[1]]).split("\n")


def do_names(house, words, text):
    """names"""
    lines = ["part " + name for name in house.parts()]
    for where in WHERES:
        lines.extend([where + " " + name for name in house.partners(where)])
    return lines


def do_run(house, words, text):
    """run WHERE NAME NAME NUMBER"""
    return [house.run(words[0], words[1], words[2], int(words[3]))[0]]


def do_log(house, words, text):
    """log WHERE NAME NAME NUMBER"""
    log = house.run(words[0], words[1], words[2], int(words[3]))[1]
    return [" ".join([shown_item(item) for item in crossing]) for crossing in log]


def shown_item(item):
    """A word for an item of a CROSSING."""
    if isinstance(item, bool):
        return "inner" if item else "outer"
    return str(item)


def do_parted(house, words, text):
    """parted WHERE NUMBER"""
    return [" ".join(couple) for couple in house.parted(words[0], int(words[1]))]


def do_faults(house, words, text):
    """faults"""
    found = house.faults()
    if found is None:
        return UNASKED
    return [" ".join(fault) for fault in found[0] + found[1]] or ["none"]


def do_compare(house, words, text):
    """compare WHERE NAME NAME"""
    word, found = house.compare(words[0], words[1], words[2])
    if word == "alike":
        return [word]
    side, told = side_at(house, words[0])
    return [word] + show_partner(side, told, found).split("\n")


def do_classes(house, words, text):
    """classes SIDE KIND"""
    side = house.sides()[SIDES.index(words[0])]
    if words[1] not in kinds_of(side):
        raise NoName(words[1])
    return [" ".join(lot) for lot in classes(side, words[1])]


def do_mend(house, words, text):
    """mend WISH"""
    if house.faults() is None:
        return UNASKED
    left, right = house.sides()
    lots = mode_mends(left, right, house.table(), words[0])
    return [" ".join([MODE_NAMES[at] for at in lot]) or "nothing" for lot in lots] or ["never"]


def do_back(house, words, text):
    """back NAME NAME NAME NUMBER"""
    return changed_over(house, words, "beside", brought_back, "alone")


def do_over(house, words, text):
    """over NAME NAME NAME NUMBER"""
    return changed_over(house, words, "alone", led_over, "beside")


def changed_over(house, words, where, change, there):
    """The text of what becomes at another WHERE of a PARTNER that parts two PARTS."""
    if house.faults() is None:
        return UNASKED
    parts, partners = house.parts(), house.partners(where)
    need_name(parts, words[0])
    need_name(parts, words[1])
    need_name(partners, words[2])
    left, right = house.sides()
    found = change(left, right, house.table(), parts[words[0]], parts[words[1]], partners[words[2]], int(words[3]))
    side, told = side_at(house, there)
    return show_partner(side, told, found).split("\n")


def do_safe(house, words, text):
    """safe WAY UP MORE DOWN HOME STRIKE FIND DRAIN HOLD"""
    row = wrong_row((words[0],) + tuple([int(word) for word in words[1:5]]) + tuple(words[5:]))
    return ["safe"] if row is None else [shown_event(event) for event in row]


def shown_event(event):
    """The words of an EVENT."""
    told = [event[0]]
    for item in event[1:]:
        told.extend([str(number) for number in item] if isinstance(item, tuple) else [str(item)])
    return " ".join(told)


FORMS = {
    "part NAME TEXT": do_part, "partner WHERE NAME TEXT": do_partner,
    "drop part NAME": do_drop_part, "drop partner WHERE NAME": do_drop_partner,
    "table TEXT": do_table, "undo": do_undo,
    "show side SIDE": do_show_side, "show table": do_show_table,
    "show part NAME": do_show_part, "show partner WHERE NAME": do_show_partner, "names": do_names,
    "run WHERE NAME NAME NUMBER": do_run, "log WHERE NAME NAME NUMBER": do_log, "parted WHERE NUMBER": do_parted,
    "faults": do_faults, "compare WHERE NAME NAME": do_compare, "classes SIDE NAME": do_classes, "mend WISH": do_mend,
    "back NAME NAME NAME NUMBER": do_back, "over NAME NAME NAME NUMBER": do_over,
    "safe WAY FIGURE FIGURE FIGURE FIGURE STRIKE FIND DRAIN HOLD": do_safe,
}


def is_slot(slot):
    """Whether a word of a form stands for others."""
    return slot.isupper()


def fits_slot(slot, word):
    """Whether a word may stand in the place of a word of a form."""
    if slot == "NAME":
        return is_name(word)
    if slot == "NUMBER":
        return is_number(word)
    words = {"WHERE": WHERES, "SIDE": SIDES, "WISH": WISHES, "FIGURE": FIGURES, "WAY": WAYS, "STRIKE": STRIKES,
             "FIND": FINDS, "DRAIN": DRAINS, "HOLD": HOLDS}
    return word in words.get(slot, (slot,))


def form_of(words, behind):
    """The form of a command, by the words of its first line and the lines behind it; "" if it has none."""
    has_words = any([words_of(line) != [] for line in behind])
    for form in FORMS:
        slots = form.split(" ")
        has_text = slots[-1] == "TEXT"
        if has_text:
            slots.pop()
        if len(slots) == len(words) and all([fits_slot(slot, word) for slot, word in zip(slots, words)]):
            return "" if has_words and not has_text else form
    return ""


class Desk:
    """A House that is led by texts."""

    def __init__(self, left, right, table):
        for place, text in enumerate((left, right, table)):
            if not isinstance(text, str):
                raise Wrong(place)
        one, other = read_side(left), read_side(right)
        self._house = House(one, other, read_table(one, other, table))

    def house(self):
        """A twin of the House."""
        return self._house.twin()

    def execute(self, text):
        """Executes a command; returns the lines of its answer."""
        if not isinstance(text, str):
            raise Wrong(0)
        lines = text.split("\n")
        words = words_of(lines[0])
        form = form_of(words, lines[1:])
        if form == "":
            raise NoCommand(text)
        given = [word for slot, word in zip(form.split(" "), words) if is_slot(slot)]
        action = FORMS[form]
        found = action(self._house, given, "\n".join(lines[1:]))
        if found is None:
            raise NoCommand(text)
        return list(found)
