"""Least changes that make a TABLE right: of its modes, and of its WAYS, with PAPERS that no less will do."""

from besidealone.faithful import is_faithful, joined, missed
from besidealone.forms import is_integer, is_row
from besidealone.likeness import classes
from besidealone.prices import assigned
from besidealone.sides import raws_of
from besidealone.tables import MODES, class_or_none, keeps_alike, led, with_modes
from besidealone.tight import is_tight, split


def mode_mends(left, right, table, wish):
    """The least lots of modes, by their indexes, with which exchanged the TABLE is as wished."""
    lots = [()]
    for at in range(len(MODES)):
        lots = lots + [lot + (at,) for lot in lots]
    found = []
    # Each lot stands behind all parts of it.
    for lot in lots:
        has_part = any([all([at in lot for at in part]) for part in found])
        if not has_part and is_as_wished(left, right, with_exchanged(table, lot), wish):
            found.append(lot)
    return tuple(sorted(found))


def with_exchanged(table, lot):
    """The TABLE with these modes, told by their indexes, exchanged."""
    modes = []
    for at, mode in enumerate(table[3]):
        other = [own for own in MODES[at] if own != mode][0]
        modes.append(other if at in lot else mode)
    return with_modes(table, tuple(modes))


def is_as_wished(left, right, table, wish):
    """Whether all sentences of the WISH hold."""
    if wish != "faithful" and not is_tight(left, right, table):
        return False
    return wish == "tight" or is_faithful(left, right, table)


def place_of(lots, raw):
    """The index of the one of these lots in which a RAW stands."""
    return [at for at, lot in enumerate(lots) if raw in lot][0]


def staying_counts(left, way, lots, ends):
    """For each CLASS where a WAY begins a list of how many of its RAWS it leads to each CLASS where it ends."""
    counts = [[0] * len(ends) for _ in lots]
    for at, lot in enumerate(lots):
        for raw in lot:
            counts[at][place_of(ends, led(left, way, raw))] += 1
    return counts


def mended_out(left, right, way, wish):
    """The WAY to the right that is as wished and changes the fewest RAWS, with a PAPER, or None."""
    lots, ends = classes(left, way[0]), classes(right, way[1])
    counts = staying_counts(left, way, lots, ends)
    if wish == "tight":
        lefts = [max(row) for row in counts]
        homes = [row.index(top) for row, top in zip(counts, lefts)]
        owners = [[at] for at in homes]
        rights = [0] * len(ends)
    elif len(lots) > len(ends):
        return None
    else:
        homes, owners, lefts, rights = shared_out(counts, len(ends), wish)
    raws = []
    for raw in raws_of(left, way[0]):
        at = place_of(lots, raw)
        end = led(left, way, raw)
        raws.append(end if place_of(ends, end) in owners[at] else ends[homes[at]][0])
    return (way[:2] + (tuple(raws),), (tuple(lefts), tuple(rights)))


def shared_out(counts, columns, wish):
    """A CLASS on the right of its own for each left one, all that each left one has, and the PAPER's integers."""
    tops = [0] * columns
    if wish == "faithful":
        # What no left CLASS needs falls to the one that has most RAWS there.
        tops = [max([row[at] for row in counts]) for at in range(columns)]
    costs = [[top - count for top, count in zip(tops, row)] for row in counts]
    homes, rows, prices = assigned(costs, columns)
    owners = [[home] for home in homes]
    if wish == "faithful":
        for at in [place for place in range(columns) if place not in homes]:
            owners[[row[at] for row in counts].index(tops[at])].append(at)
    return homes, owners, [-price for price in rows], [top - price for top, price in zip(tops, prices)]


def are_integers(many, thing):
    """Whether any value is a tuple of so many integers."""
    return is_row(many, thing) and all([is_integer(number) for number in thing])


def is_like(side, way, lacks, thing):
    """Whether any value is a WAY to a SIDE that begins and ends as another one; lacks: what it may lead to besides."""
    if not is_row(3, thing) or thing[:2] != way[:2] or not is_row(len(way[2]), thing[2]):
        return False
    ends = raws_of(side, way[1]) + lacks
    return all([raw in ends for raw in thing[2]])


def is_mended_out(left, right, way, wish, thing):
    """Whether any value is what mended_out may return."""
    if not is_row(2, thing) or not is_like(right, way, (), thing[0]) or not is_row(2, thing[1]):
        return False
    if wish != "faithful" and split(left, right, thing[0]) is not None:
        return False
    if wish != "tight" and joined(left, right, thing[0]) is not None:
        return False
    lots, ends = classes(left, way[0]), classes(right, way[1])
    lefts, rights = thing[1]
    if not are_integers(len(lots), lefts) or not are_integers(len(ends), rights):
        return False
    if not have_signs(lefts, rights, wish):
        return False
    for row, one in zip(staying_counts(left, way, lots, ends), lefts):
        if not all([one + other >= count for other, count in zip(rights, row)]):
            return False
    staying = len([raw for raw, elder in zip(thing[0][2], way[2]) if raw == elder])
    return staying == sum(lefts) + sum(rights)


def have_signs(lefts, rights, wish):
    """Whether the integers of a PAPER are above, or below, 0 as they may be."""
    if wish == "tight":
        return not any(rights)
    return min(rights) >= 0 and (wish != "faithful" or max(lefts) <= 0)


def changing_counts(left, right, way):
    """For each left CLASS a list of how many RAWS of each right one a WAY from the right does not lead there."""
    lots, ends = classes(right, way[0]), classes(left, way[1])
    homes = [class_or_none(ends, led(right, way, lot[0])) for lot in lots]
    return [[0 if home == end else len(lot) for lot, home in zip(lots, homes)] for end in ends]


def mended_into(left, right, way):
    """The WAY from the right that leads to each CLASS and changes the fewest RAWS, with a PAPER, or None."""
    lots, ends = classes(right, way[0]), classes(left, way[1])
    if len(ends) > len(lots):
        return None
    counts = changing_counts(left, right, way)
    homes, lefts, prices = assigned(counts, len(lots))
    moved = {lots[home]: ends[at][0] for at, home in enumerate(homes) if counts[at][home] > 0}
    raws = []
    for raw in raws_of(right, way[0]):
        raws.append(moved.get(lots[place_of(lots, raw)], led(right, way, raw)))
    return (way[:2] + (tuple(raws),), (tuple(lefts), tuple([-price for price in prices])))


def is_mended_into(left, right, way, thing):
    """Whether any value is what mended_into may return."""
    if not is_row(2, thing) or not is_like(left, way, ("",), thing[0]) or not is_row(2, thing[1]):
        return False
    lots, ends = classes(right, way[0]), classes(left, way[1])
    if not keeps_alike(right, {way[0]: lots}, {way[1]: ends}, thing[0]) or missed(left, thing[0]) != ():
        return False
    lefts, rights = thing[1]
    if not are_integers(len(ends), lefts) or not are_integers(len(lots), rights) or min(rights) < 0:
        return False
    for row, one in zip(changing_counts(left, right, way), lefts):
        if not all([one <= other + count for other, count in zip(rights, row)]):
            return False
    changed = len([raw for raw, elder in zip(thing[0][2], way[2]) if raw != elder])
    return changed == sum(lefts) - sum(rights)
