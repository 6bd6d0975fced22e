"""A slow but plain session, apart from the program's own: all is kept as it was, all answers by going through all ways."""

from functools import lru_cache
from itertools import permutations

from byhand import crosses_by_hand, is_cross_of, is_picture_of, is_way, joined_by_hand, part_of
from mustcross.boards import Board
from mustcross.sessions import Session
from support import all_ways, is_apart, most_disjoint
from textoracle import is_name

DEEDS = {"place": 1, "leave": 1, "tie": 2, "cut": 2, "pin": 2, "off": 1, "watch": 1, "hold": 1, "free": 1}
APART = ("apart", "a", "c", "b", "d")
QUESTIONS = {"cross": 0, "apart": 4, "joined": 2, "count": 2, "ring": 1}


def is_list(thing):
    return isinstance(thing, (list, tuple))


def stretch(rim, first, last):
    """The pins of a stretch."""
    row = [first]
    while row[-1] != last:
        row.append(rim[(rim.index(row[-1]) + 1) % len(rim)])
    return row


def count_by_hand(of, row):
    """The count of a stretch, None if it is all pins."""
    others = [pin for pin in of.rim() if pin not in row]
    return most_disjoint(all_ways(of, row, others)) if others else None


def told_rings(onward):
    """The rings of a dict from each pin to the next one, as a code tells them."""
    rings = []
    for pin in sorted(onward):
        if not any(pin in ring for ring in rings):
            ring = [pin]
            while onward[ring[-1]] != pin:
                ring.append(onward[ring[-1]])
            rings.append(min(ring, ring[:1] + ring[:0:-1]))
    return rings


def code_by_hand(of):
    """The code of a board, by trying all ways to go on."""
    rim = of.rim()
    rows = [(rim + rim)[at:at + many] for at in range(len(rim)) for many in range(1, len(rim))]
    due = [count_by_hand(of, row) for row in rows]
    for to in permutations(rim):
        onward = dict(zip(rim, to))
        if all(sum(onward[pin] not in row for pin in row) == number for row, number in zip(rows, due)):
            return told_rings(onward)
    raise AssertionError("no code")


@lru_cache(maxsize=None)
def cached_answer(places, ties, rim, question):
    of = Board(places, ties, rim)
    kind, *row = question
    if kind == "cross":
        return crosses_by_hand(of)
    if kind == "apart":
        return joined_by_hand(of, [row[:2], row[2:]])
    if kind == "joined":
        return row[1] in part_of(of.near(), row[0])
    if kind == "count":
        return count_by_hand(of, stretch(of.rim(), *row))
    return [ring for ring in code_by_hand(of) if row[0] in ring][0]


def answer_by_hand(of, question):
    """The answer of a question, by going through all ways."""
    told = cached_answer(tuple(of.places()), tuple(of.ties()), tuple(of.rim()), question)
    return list(told) if isinstance(told, list) else told


def is_question_by_hand(of, thing):
    """Whether any object is a question about a board."""
    if not is_list(thing) or not all(isinstance(part, str) for part in thing) or not thing:
        return False
    kind, *row = thing
    if kind not in QUESTIONS or len(row) != QUESTIONS[kind]:
        return False
    if kind in ("count", "ring"):
        return set(row) <= set(of.rim())
    return set(row) <= set(of.places()) and len(set(row)) == len(row)


def is_why_by_hand(of, question, ahead, behind, why):
    """Whether something shows the answer of a question on a board behind a deed."""
    kind, *row = question
    if kind == "cross":
        return is_cross_of(of, why) if behind else is_picture_of(of, why)
    if kind == "apart":
        four = Board(of.places(), of.ties(), [row[0], row[2], row[1], row[3]])
        if not behind:
            return is_picture_of(four, why)
        return (is_apart(of, [row[0], row[2]], [row[1], row[3]], why) and isinstance(why, tuple)
                and [(way[0], way[-1]) for way in why] == [(row[0], row[1]), (row[2], row[3])])
    if kind == "joined":
        if behind:
            return is_way(of, why) and (why[0], why[-1]) == tuple(row) and isinstance(why, list)
        return why == sorted(part_of(of.near(), row[0]))
    return why == (ahead, behind)


class Model:
    """A session by hand: a board, watched questions as pairs, and all states that were."""

    def __init__(self):
        self.board, self.watched = Board([], [], []), []
        self.past, self.future = [], []

    def state(self):
        return self.board, list(self.watched)

    def told_deed(self, deed):
        return (deed[0], tuple(deed[1])) if deed[0] in ("watch", "hold", "free") else tuple(deed)

    def behind(self, deed):
        """The state behind a deed, or an error as (name, what it has)."""
        of = self.board
        if not is_list(deed) or not deed or not isinstance(deed[0], str) or DEEDS.get(deed[0]) != len(deed) - 1:
            return "BadDeed", {"thing": deed}
        word, *row = deed
        places, ties, rim = of.places(), of.ties(), of.rim()
        if word == "place":
            if not isinstance(row[0], str) or not is_name(row[0]) or row[0] in places:
                return "BadName", {"thing": row[0]}
            return Board(places + row, ties, rim), list(self.watched)
        if word in ("watch", "hold", "free"):
            return self.watched_behind(word, row[0])
        for name in row[:2 if word in ("tie", "cut") else 1]:
            if not isinstance(name, str) or name not in places:
                return "BadName", {"thing": name}
        there = tuple(sorted(row)) in ties if word in ("tie", "cut") else None
        if word == "tie" and (there or row[0] == row[1]):
            return "HasTie", {"one": row[0], "other": row[1]}
        if word == "cut" and not there:
            return "NoTie", {"one": row[0], "other": row[1]}
        if word == "off" and row[0] not in rim:
            return "NoPin", {"thing": row[0]}
        others = [pin for pin in rim if pin != row[0]]
        if word == "pin" and (type(row[1]) is not int or not 0 <= row[1] <= len(others)):
            return "BadPlace", {"thing": row[1]}
        if word == "leave":
            return (Board([one for one in places if one != row[0]], [tie for tie in ties if row[0] not in tie], others),
                    list(self.watched))
        if word == "tie":
            ties = ties + [tuple(row)]
        elif word == "cut":
            ties = [tie for tie in ties if set(tie) != set(row)]
        elif word == "off":
            rim = others
        else:
            rim = others[:row[1]] + [row[0]] + others[row[1]:]
        return Board(places, ties, rim), list(self.watched)

    def watched_behind(self, word, thing):
        if not is_question_by_hand(self.board, thing):
            return "BadQuestion", {"thing": thing}
        question = tuple(thing)
        known = [one for one, _ in self.watched]
        if word == "free":
            if question not in known:
                return "NotWatched", {"question": question}
            return self.board, [row for row in self.watched if row[0] != question]
        if question not in known:
            return self.board, self.watched + [(question, word == "hold")]
        if word == "watch" or (question, True) in self.watched:
            return "IsWatched", {"question": question}
        return self.board, [(one, held or one == question) for one, held in self.watched]

    def would(self, deed):
        """The triples that are answered otherwise behind a deed, or an error as (name, what it has)."""
        found = self.behind(deed)
        if isinstance(found[0], str):
            return found
        for question, _ in self.watched:
            if not is_question_by_hand(found[0], question):
                return "InUse", {"question": question}
        rows = [(one, answer_by_hand(self.board, one), answer_by_hand(found[0], one)) for one, _ in self.watched]
        return [row for row in rows if row[1] != row[2]]

    def would_change(self, deed):
        """The first held triple that a deed would change, None if there is none."""
        held = [one for one, is_held in self.watched if is_held]
        return next((row for row in self.would(deed) if row[0] in held), None)

    def do(self, deed):
        """Does a deed that can be done."""
        state = self.behind(deed)
        self.past.append((self.told_deed(deed), self.state()))
        self.future = []
        self.board, self.watched = state

    def undo(self):
        if not self.past:
            return None
        deed, state = self.past.pop()
        self.future.append((deed, self.state()))
        self.board, self.watched = state
        return deed

    def again(self):
        if not self.future:
            return None
        deed, state = self.future.pop()
        self.past.append((deed, self.state()))
        self.board, self.watched = state
        return deed

    def copy(self):
        other = Model()
        other.board, other.watched = self.state()
        other.past, other.future = list(self.past), list(self.future)
        return other


def deeds_for(of):
    """The deeds by which a board is put in, place by place, tie by tie, pin by pin."""
    deeds = [("place", place) for place in of.places()] + [("tie", *tie) for tie in of.ties()]
    return deeds + [("pin", pin, at) for at, pin in enumerate(of.rim())]


def session_of(of, watched=(), held=()):
    """A session in which a board was put in, and questions are watched or held."""
    session = Session()
    for deed in deeds_for(of):
        session.do(deed)
    for question in watched:
        session.do(("watch", question))
    for question in held:
        session.do(("hold", question))
    return session


def shown(session):
    """All that a session tells of itself."""
    copy = session.copy()
    taken = []
    while (deed := copy.again()) is not None:
        taken.append((deed, copy.now().places(), copy.now().ties(), copy.now().rim(), copy.watched()))
    return (session.now().places(), session.now().ties(), session.now().rim(), session.watched(), session.count(),
            session.deeds(), taken)


def some_question(of, chance):
    """A question, or nearly one."""
    names = (of.places() or ["a"]) + ["q"] * chance.randrange(2)
    pins = (of.rim() or ["a"]) + ["q"] * chance.randrange(2)
    kind = chance.choice(["cross", "apart", "apart", "joined", "count", "ring"])
    if kind == "cross":
        return ("cross",)
    if kind in ("count", "ring"):
        return (kind, *[chance.choice(pins) for _ in range(2 if kind == "count" else 1)])
    many = 4 if kind == "apart" else 2
    if len(names) >= many and chance.randrange(9):
        return (kind, *chance.sample(names, many))
    return (kind, *[chance.choice(names) for _ in range(many)])
