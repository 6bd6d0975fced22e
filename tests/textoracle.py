"""Slow but plain ways to tell the first wrong sign of a text, apart from the program's own.

Whole lines are judged by regular expressions; whether some text that is read
begins with a part of a line is found out by trying ends for it.
"""

import re
from functools import lru_cache
from itertools import combinations, permutations, product

from support import WORDS

SIGNS = "abcdefghijklmnopqrstuvwxyz0123456789"
NAME = "[a-z][a-z0-9]{0,7}"
ROW = f"{NAME}(?:, {NAME})*"


def is_name(text):
    return re.fullmatch(NAME, text, re.ASCII) is not None and text not in WORDS


def place_of(text, index):
    """The line and the sign of the sign with an index."""
    ahead = text[:index].split("\n")
    return (len(ahead), len(ahead[-1]) + 1)


class NoticeLines:
    """What the lines of a notice's text, read so far, let come next."""

    def __init__(self):
        self.places, self.ties, self.rim, self.wishes = [], [], None, []

    def is_new(self, name):
        return is_name(name) and name not in self.places

    def place_line_begins(self, part):
        """Whether a place line begins with a part of a line."""
        if len(part) <= len("place "):
            return "place ".startswith(part)
        if not part.startswith("place "):
            return False
        name = part[len("place "):]
        if name.endswith("\n"):
            return self.is_new(name[:-1])
        if re.fullmatch(NAME, name, re.ASCII) is None:
            return False
        if len(name) < 7:
            return True
        ends = [""] if len(name) == 8 else ["", *SIGNS]
        return any(self.is_new(name + end) for end in ends)

    def other_lines(self):
        """All lines but place lines that may come next."""
        return self.board_lines() if self.rim is None else self.last_lines()

    def board_lines(self):
        """All tie and rim lines that may come next."""
        rows = [row for many in range(len(self.places) + 1) for row in permutations(self.places, many)]
        ties = [tie for tie in permutations(self.places, 2) if set(tie) not in self.ties]
        return (["rim\n"] + ["rim " + ", ".join(row) + "\n" for row in rows if row]
                + [f"tie {one} {other}\n" for one, other in ties])

    def last_lines(self):
        """All lines that may come next behind the rim's."""
        return [f"apart {a} {b}, {c} {d}\n" for a, b, c, d in permutations(self.places, 4)
                if {frozenset((a, b)), frozenset((c, d))} not in self.wishes]

    def take(self, line):
        """A whole line that may come next stands."""
        names = re.findall(NAME, line)[1:]
        if line.startswith("place"):
            self.places.append(names[0])
        elif line.startswith("tie"):
            self.ties.append(set(names))
        elif line.startswith("rim"):
            self.rim = names
        else:
            self.take_last(line, names)

    def take_last(self, line, names):
        self.wishes.append({frozenset(names[:2]), frozenset(names[2:])})


class SessionLines(NoticeLines):
    """What the lines of a session's text, read so far, let come next."""

    def last_lines(self):
        rows = [("cross",), *[("ring", pin) for pin in self.rim], *[("count", *row) for row in product(self.rim, repeat=2)],
                *[("joined", *row) for row in permutations(self.places, 2)],
                *[("apart", *row) for row in permutations(self.places, 4)]]
        return [f"{word} {' '.join(row)}\n" for word in ("watch", "hold") for row in rows if row not in self.wishes]

    def take_last(self, line, names):
        self.wishes.append(tuple(names))


def notice_fault_by_hand(text):
    """The first wrong sign of a text, None for a notice's text."""
    return fault_by_hand(text, NoticeLines())


def session_fault_by_hand(text):
    """The first wrong sign of a text, None for a session's text."""
    return fault_by_hand(text, SessionLines())


def fault_by_hand(text, so_far):
    """The first wrong sign of a text that is read line by line, None if there is none."""
    at = 0
    while True:
        line = text[at:].split("\n")[0] + ("\n" if "\n" in text[at:] else "")
        lines = so_far.other_lines()
        for many in range(1, len(line) + 1):
            part = line[:many]
            if not any(other.startswith(part) for other in lines):
                if so_far.rim is not None or not so_far.place_line_begins(part):
                    return place_of(text, at + many - 1)
        if not line.endswith("\n"):
            is_whole = line == "" and so_far.rim is not None
            return None if is_whole else place_of(text, len(text))
        so_far.take(line)
        at += len(line)


def notice_fault_by_hand_behind(lines, last):
    """The first wrong sign of place lines, and one place line more, or a part of one."""
    so_far = NoticeLines()
    for line in lines.splitlines(True):
        so_far.take(line)
    for many in range(1, len(last) + 1):
        if not so_far.place_line_begins(last[:many]):
            return place_of(lines + last, len(lines) + many - 1)
    return place_of(lines + last, len(lines + last))


def is_row(names):
    return all(is_name(name) for name in names) and len(set(names)) == len(names)


def is_answer_text(text):
    """Whether a text is that of an answer."""
    if text and not text.endswith("\n"):
        return False
    lines = text.split("\n")[:-1]
    if lines and lines[0].startswith("way"):
        if len(lines) != 2 or not all(re.fullmatch(f"way {NAME}, {ROW}", line) for line in lines):
            return False
        return is_row(", ".join(line[4:] for line in lines).split(", "))
    kinds = [line[:2] for line in lines]
    if any(one == "at" and other == "fo" for one, other in zip(kinds, kinds[1:])):
        return False
    keys = [re.split("[ :]", line)[1] for line in lines if re.match("at ", line)]
    return len(set(keys)) == len(keys) and all(is_picture_line(line) for line in lines)


def is_picture_line(line):
    if re.fullmatch(f"fold {ROW}(?: behind {NAME}(?:, {NAME}){{0,2}})?", line):
        return is_row(line[5:].replace(" behind ", ", ").split(", "))
    if re.fullmatch(f"at {NAME}(?:: {ROW})?", line):
        return is_row(line[3:].replace(": ", ", ").split(", "))
    return False


def ends_of(row):
    return [row[at:] for at in range(len(row) + 1)]


ENDS = sorted({end for row in ["way q7, q8\nway q9, q6\n", ", q8\nway q9, q6\n", ", q8, q9\nway q5, q6\n",
                               "fold q7\n", " behind q8\n", ", q9\n", "at q9\n", ": q9\n", ", q8, q9\n"]
               for end in ends_of(row)})


@lru_cache(maxsize=None)
def answer_begins(text):
    """Whether some answer's text begins with a text."""
    names = ["", *SIGNS, "q5", "qq5"] if text[-1] in SIGNS else [""]
    return any(is_answer_text(text + name + end) for name in names for end in ENDS)


def answer_fault_by_hand(text):
    """The first wrong sign of a text, None for an answer's text."""
    for index in range(len(text)):
        if not answer_begins(text[:index + 1]):
            return place_of(text, index)
    return None if is_answer_text(text) else place_of(text, len(text))


def altered(text, signs):
    """Texts with one sign more, fewer or otherwise, and all begins."""
    found = {text[:at] for at in range(len(text) + 1)}
    for at in range(len(text) + 1):
        found.add(text[:at] + text[at + 1:])
        for sign in signs:
            found.add(text[:at] + sign + text[at:])
            found.add(text[:at] + sign + text[at + 1:])
    return sorted(found)


def pairs_of_lines(text):
    """Texts with two lines changed about, one twice, or one left out."""
    lines = text.splitlines(True)
    found = set()
    for one, other in combinations(range(len(lines)), 2):
        row = list(lines)
        row[one], row[other] = row[other], row[one]
        found.add("".join(row))
    for at in range(len(lines)):
        found.add("".join(lines[:at] + lines[at + 1:]))
        found.add("".join(lines[:at + 1] + lines[at:]))
        found.add("".join(lines + [lines[at]]))
    return sorted(found)
