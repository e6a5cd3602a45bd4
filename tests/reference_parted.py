"""Whether some PARTNER parts two PARTS so that both runs end, told once more: all rows are played up to a length."""

from tests.reference_papers import Judge


class Parted(Exception):
    """A PARTNER parts them."""


class Late(Exception):
    """There is more to be played than is asked for."""


class Hunter(Judge):
    """Goes on where not the same is SEEN, unless the one PART comes back to main and the other one's run ends."""

    ends = {"ever": ("ends",), "on": ("on",)}
    steps = 300
    plays = 0

    def play(self, *told):
        self.plays -= 1
        if self.plays < 0:
            raise Late()
        return super().play(*told)

    def stays_away(self, told, backs):
        if (backs[0] and told[1][0] != "on") or (backs[1] and told[0][0] != "on"):
            raise Parted()
        return True


def is_parted(left, right, table, where, one, other, most, plays):
    """Whether some PARTNER parts them by so many replies and INNER calls, or by a choice of what imports do; None if late."""
    hunter = Hunter(left, right, table, where, (one, other), most)
    hunter.plays = plays
    try:
        hunter.least()
    except Parted:
        return True
    except Late:
        return None
    return False
