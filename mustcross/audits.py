"""Answers for notices, and audits of anybody's by their texts."""

from mustcross.answertexts import answer_fault
from mustcross.looking import wrong_in_answer
from mustcross.names import is_list
from mustcross.notices import need_notice
from mustcross.noticetexts import notice_fault, read_notice
from mustcross.rightanswers import due_boards, right_answer


def answers_for(notice):
    """The list of right answers for a notice: for its board, then for each wish."""
    need_notice(notice)
    return [right_answer(board) for board in due_boards(notice)]


def audit(notice_text, answer_texts):
    """The first thing that is wrong with the text of a notice or of its answers, None if all is right."""
    fault = notice_fault(notice_text)
    if fault is not None:
        return ("notice", *fault, "form")
    notice = read_notice(notice_text)
    boards = due_boards(notice)
    if not is_list(answer_texts) or len(answer_texts) != len(boards):
        return "texts", 0, 0, "many"
    for index, text in enumerate(answer_texts):
        fault = answer_fault(text)
        if fault is not None:
            return (index, *fault, "form")
    # The board's own cross may have any pins for its ends, a wish's only its pairs.
    pairs = [(), *notice.wishes()]
    for index, text in enumerate(answer_texts):
        fault = wrong_in_answer(boards[index], pairs[index], text)
        if fault is not None:
            return (index, *fault)
    return None
