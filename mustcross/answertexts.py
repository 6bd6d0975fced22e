"""The texts of answers, and their first wrong signs."""

from mustcross.answergrammar import AnswerGrammar
from mustcross.answers import is_answer, told_answer
from mustcross.errors import BadAnswer, BadText
from mustcross.scans import text_fault


def row_text(names):
    """Names with commas between."""
    return ", ".join(names)


def fold_text(lot, feet):
    """The line of a fold."""
    if not feet:
        return f"fold {row_text(lot)}\n"
    return f"fold {row_text(lot)} behind {row_text(feet)}\n"


def order_text(place, order):
    """The line of a place's order."""
    if not order:
        return f"at {place}\n"
    return f"at {place}: {row_text(order)}\n"


def answer_text(answer):
    """The text of an answer."""
    if not is_answer(answer):
        raise BadAnswer(answer)
    told = told_answer(answer)
    if told[0] == "cross":
        return f"way {row_text(told[1])}\nway {row_text(told[2])}\n"
    lines = [fold_text(lot, feet) for lot, feet in told[1]]
    lines.extend([order_text(place, order) for place, order in told[2].items()])
    return "".join(lines)


def answer_fault(text):
    """The line and the first wrong sign of any object, None for an answer's text."""
    return text_fault(text, AnswerGrammar())


def read_answer(text):
    """The answer with this text."""
    grammar = AnswerGrammar()
    fault = text_fault(text, grammar)
    if fault is not None:
        raise BadText(fault[0], fault[1])
    return grammar.answer()
