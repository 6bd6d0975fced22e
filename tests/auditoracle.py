"""A slow but plain audit, apart from the program's own but for where a text's form is wrong: that has its own tests."""

import re
from itertools import combinations
from random import Random

from byhand import pinned_boards
from mustcross.answertexts import answer_fault
from mustcross.boards import Board
from mustcross.notices import Notice
from mustcross.noticetexts import notice_fault
from support import small_boards
from textoracle import NAME, is_answer_text


def read_by_hand(text):
    """The places, ties, rim and wishes of a notice's text."""
    places, ties, rim, wishes = [], set(), [], []
    for line in text.splitlines():
        word, *names = re.findall(NAME, line)
        if word == "place":
            places += names
        elif word == "tie":
            ties.add(frozenset(names))
        elif word == "rim":
            rim = names
        else:
            wishes.append((names[:2], names[2:]))
    return places, ties, rim, wishes


def told_signs(line):
    """All words of a line but the first, each with its sign."""
    return [(found.group(), found.start() + 1) for found in re.finditer(NAME, line)][1:]


def cross_faults(places, ties, rim, pairs, lines):
    """All that is wrong with a cross, in order; nothing is looked at behind what makes no sense."""
    ends = []
    for number, line in enumerate(lines, 1):
        names = told_signs(line)
        for at, (name, sign) in enumerate(names):
            if name not in places:
                yield number, sign, "who"
            elif at and {names[at - 1][0], name} not in ties:
                yield number, sign, "tie"
        both = [names[0][0], names[-1][0]]
        if pairs is None and not set(both) <= set(rim):
            yield number, 1, "ends"
        if pairs is not None and set(both) not in [set(pair) for pair in pairs]:
            yield number, 1, "ends"
        ends.append(both)
    row = [pin in ends[0] for pin in rim if pin in ends[0] + ends[1]]
    if pairs is None and row not in [[True, False, True, False], [False, True, False, True]]:
        yield 3, 1, "turns"


def faces_by_hand(places, ties, rim, orders):
    """How many faces there are, and how many Euler counts, the outside being a place more."""
    rings = {place: (["rim"] if place in rim else []) + orders[place] for place in places}
    rings["rim"] = rim[::-1]
    left = {(one, other) for one in rings for other in rings[one]}
    many = 0
    while left:
        one, other = start = min(left)
        many += 1
        while True:
            left.discard((one, other))
            ring = rings[other]
            one, other = other, ring[(ring.index(one) + 1) % len(ring)]
            if (one, other) == start:
                break
    due, waiting = 0, {place for place in rings if rings[place]}
    while waiting:
        part = [min(waiting)]
        for place in part:
            part += [other for other in rings[place] if other not in part]
        waiting -= set(part)
        due += 2 - len(part) + sum(len(rings[place]) for place in part) // 2
    return many, due


def fold_faults(places, left, ties, rim, line):
    """All that is wrong with a fold, in order, then its lot and feet."""
    head = line.split(" behind ")[0]
    lot = told_signs(head)
    feet = [(name, sign) for name, sign in told_signs(line) if sign > len(head) and name != "behind"]
    for name, sign in lot:
        if name not in places:
            yield sign, "who"
        elif name in rim:
            yield sign, "pin"
        elif name not in left:
            yield sign, "gone"
    for name, sign in feet:
        if name not in places:
            yield sign, "who"
        elif name not in left:
            yield sign, "gone"
    names = [name for name, _ in lot]
    part = names[:1]
    for one in part:
        part += [other for other in names if other not in part and {one, other} in ties]
    if len(part) < len(names):
        yield 1, "apart"
    around = {other for one in names for other in left if other not in names and {one, other} in ties}
    if around != {name for name, _ in feet}:
        yield 1, "feet"


def picture_faults(places, ties, rim, lines):
    """All that is wrong with a picture, in order; what makes no sense is not folded."""
    left, ties = list(places), set(ties)
    orders = {}
    for number, line in enumerate(lines, 1):
        names = told_signs(line)
        if line.startswith("fold "):
            for sign, why in fold_faults(places, left, ties, rim, line):
                yield number, sign, why
            lot = re.findall(NAME, line.split(" behind ")[0])[1:]
            feet = [name for name, _ in names if name not in lot and name != "behind"]
            left = [place for place in left if place not in lot]
            ties = {tie for tie in ties if not tie & set(lot)} | {frozenset(tie) for tie in combinations(feet, 2)}
            continue
        first = names[0][0]
        for name, sign in names:
            if name not in places:
                yield number, sign, "who"
            elif name not in left:
                yield number, sign, "gone"
            elif name != first and {first, name} not in ties:
                yield number, sign, "tie"
        orders[first] = [name for name, _ in names[1:]]
        if any({first, other} in ties and other not in orders[first] for other in left if other != first):
            yield number, 1, "lacks"
    if any(place not in orders for place in left):
        yield len(lines) + 1, 1, "lacks"
        return
    many, due = faces_by_hand(left, ties, rim, orders)
    if many != due:
        yield len(lines) + 1, 1, "faces"


def audit_by_hand(notice_text, answer_texts):
    """What audit should tell."""
    fault = notice_fault(notice_text)
    if fault is not None:
        return ("notice", *fault, "form")
    places, ties, rim, wishes = read_by_hand(notice_text)
    if not isinstance(answer_texts, (list, tuple)) or len(answer_texts) != len(wishes) + 1:
        return ("texts", 0, 0, "many")
    for index, text in enumerate(answer_texts):
        if not isinstance(text, str):
            return (index, 0, 0, "form")
        if not is_answer_text(text):
            return (index, *answer_fault(text), "form")
    for index, text in enumerate(answer_texts):
        pairs = wishes[index - 1] if index else None
        four = [pairs[0][0], pairs[1][0], pairs[0][1], pairs[1][1]] if index else rim
        lines = text.splitlines()
        if text.startswith("way"):
            faults = cross_faults(places, ties, four, pairs, lines)
        else:
            faults = picture_faults(places, ties, four, lines)
        for fault in faults:
            return (index, *fault)
    return None


def notices(many, seed):
    """Some notices of small boards, with wishes and without."""
    chance = Random(seed)
    found = []
    for of in [*small_boards(many, 7, seed), *pinned_boards(many, 7, seed + 1)]:
        wishes = []
        for _ in range(chance.randint(0, 3) if len(of.places()) > 3 else 0):
            a, b, c, d = sorted(chance.sample(of.places(), 4), key=lambda one: chance.random())
            if Notice(of, [((a, b), (c, d))]).wishes()[0] not in Notice(of, wishes).wishes():
                wishes.append(((a, b), (c, d)))
        found.append(Notice(of, wishes))
    return found


def four_of(notice, index):
    """The board of which an answer is due."""
    if not index:
        return notice.board()
    (a, b), (c, d) = notice.wishes()[index - 1]
    return Board(notice.board().places(), notice.board().ties(), [a, c, b, d])
