"""The texts of sessions."""

from mustcross.boardgrammar import BoardThen
from mustcross.errors import BadText
from mustcross.notices import Notice
from mustcross.noticetexts import notice_text
from mustcross.scans import text_fault
from mustcross.sessiongrammar import QuestionLines
from mustcross.sessions import need_session, session_with


def question_line(question, is_held):
    """The line of a watched question."""
    word = "hold" if is_held else "watch"
    return word + " " + " ".join(question) + "\n"


def write_session(session):
    """The text of a session."""
    need_session(session)
    lines = [question_line(question, is_held) for question, _, is_held in session.watched()]
    return notice_text(Notice(session.now(), [])) + "".join(lines)


def read_session(text):
    """The session with this text, no deed done."""
    lines = QuestionLines()
    grammar = BoardThen(lines)
    fault = text_fault(text, grammar)
    if fault is not None:
        raise BadText(fault[0], fault[1])
    return session_with(grammar.board(), lines.watched())
