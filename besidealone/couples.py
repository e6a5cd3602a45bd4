"""Couples of RAWS that a WAY, or the words of a TABLE, lead to what is ALIKE, or not."""

from besidealone.likeness import lot_with


def least_couple(raws, ends, begin_lots, end_lots, is_alike):
    """The least couple of RAWS that are ALIKE where they begin and not where they end, or the other way about.

    ends tells where these RAWS are led to, is_alike which one of both is asked for; () if there is no such couple.
    """
    for at, one in enumerate(raws):
        for other in raws[at + 1:]:
            begins = other in lot_with(begin_lots, one)
            if begins == is_alike and (ends[other] in lot_with(end_lots, ends[one])) != is_alike:
                return (one, other)
    return ()


def couple_or_none(couple):
    """A couple, None if there is none."""
    return None if couple == () else couple
