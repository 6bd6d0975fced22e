"""The texts of notices, and their first wrong signs."""

from mustcross.boardgrammar import BoardThen
from mustcross.errors import BadText
from mustcross.noticegrammar import WishLines
from mustcross.notices import Notice, need_notice
from mustcross.scans import Scan, taken_signs, text_fault


def pair_text(pair):
    """Two names with a blank between."""
    return f"{pair[0]} {pair[1]}"


def rim_text(pins):
    """The rim's line."""
    if not pins:
        return "rim\n"
    return "rim " + ", ".join(pins) + "\n"


def notice_text(notice):
    """The text of a notice."""
    need_notice(notice)
    board = notice.board()
    lines = [f"place {place}\n" for place in board.places()]
    lines.extend([f"tie {pair_text(tie)}\n" for tie in board.ties()])
    lines.append(rim_text(board.rim()))
    lines.extend([f"apart {pair_text(one)}, {pair_text(other)}\n"
                  for one, other in notice.wishes()])
    return "".join(lines)


def notice_fault(text):
    """The line and the first wrong sign of any object, None for a notice's text."""
    return text_fault(text, BoardThen(WishLines()))


def read_notice(text):
    """The notice with this text."""
    lines = WishLines()
    grammar = BoardThen(lines)
    fault = text_fault(text, grammar)
    if fault is not None:
        raise BadText(fault[0], fault[1])
    return Notice(grammar.board(), lines.wishes())


def notice_goes_on(text):
    """A notice's text that begins with a string, None if there is none."""
    if not isinstance(text, str):
        return None
    scan = Scan(BoardThen(WishLines()))
    if taken_signs(scan, text) < len(text):
        return None
    return text + scan.rest()
