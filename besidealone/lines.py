"""The lines of texts, read one behind the other."""

from besidealone.errors import NoText


def words_of(line):
    """The words of a line, which one blank or more parts."""
    return [word for word in line.split(" ") if word]


class Lines:
    """Those lines of a text that have words, with one of them being read."""

    def __init__(self, text):
        lines = text.split("\n")
        rows = [(at, words_of(line)) for at, line in enumerate(lines)]
        self.rows = [(at, words) for at, words in rows if words]
        # What lacks behind the last line is told by the number of all lines.
        self.behind = len(lines)
        self.now = 0

    def words(self):
        """The words of the line being read, [] behind the last one."""
        if self.now == len(self.rows):
            return []
        return list(self.rows[self.now][1])

    def begins(self, word):
        """Whether the line being read begins with this word."""
        return self.words()[:1] == [word]

    def need(self, good):
        """Raises NoText for the line being read unless it is good."""
        if not good:
            at = self.behind if self.now == len(self.rows) else self.rows[self.now][0]
            raise NoText(at)

    def go_on(self):
        """Goes on to the next line."""
        self.now += 1

    def need_end(self):
        """Raises NoText for the line being read if there is one."""
        self.need(self.now == len(self.rows))
