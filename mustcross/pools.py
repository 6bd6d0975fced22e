"""The names that may stand at one place of a text."""

from mustcross.names import LETTERS, LONGEST_NAME, NAME_SIGNS, WORDS, is_name


def count_names(more):
    """How many rows of at most so many signs of names there are, the empty one too."""
    many = 1
    for _ in range(more):
        many = many * len(NAME_SIGNS) + 1
    return many


class FreeNames:
    """All names but those that were left out."""

    def __init__(self):
        self._gone = {}
        # How many names that may not stand begin so: names with a long
        # beginning can run out, and a text is wrong as soon as they have.
        self._barred = {}
        for word in WORDS:
            self._bar(word)

    def _bar(self, name):
        for many in range(1, len(name) + 1):
            part = name[:many]
            self._barred[part] = self._barred.get(part, 0) + 1

    def leave_out(self, name):
        """The name, which was there, may not stand any more."""
        self._gone[name] = True
        self._bar(name)

    def has(self, name):
        """Whether a string may stand."""
        return is_name(name) and name not in self._gone

    def begins(self, part):
        """Whether a name that may stand begins with a row of signs of names."""
        if part[0] not in LETTERS or len(part) > LONGEST_NAME:
            return False
        return self._barred.get(part, 0) < count_names(LONGEST_NAME - len(part))


class ToldNames:
    """The names of a list, and no others."""

    def __init__(self, names):
        self._names = list(names)

    def has(self, name):
        """Whether a string may stand."""
        return name in self._names

    def begins(self, part):
        """Whether a name that may stand begins with a row of signs of names."""
        return any([name.startswith(part) for name in self._names])
