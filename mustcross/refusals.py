"""Words of others about a notice, and what refuses the first wrong one."""

from mustcross.crossing import is_crossed
from mustcross.errors import BadWords
from mustcross.names import is_integer, is_list, is_pair
from mustcross.notices import need_notice
from mustcross.rightanswers import due_boards, is_right_answer, right_answer

NONE = "none"
WORDS_OF_BOARD = ("cross", "none")
WORDS_OF_WISH = ("apart", "none")


def need_words(notice, words):
    """BadNotice for what is no Notice, BadWords for what are no words of it."""
    need_notice(notice)
    many = len(notice.wishes()) + 1
    if not is_list(words):
        raise BadWords(0)
    for index, word in enumerate(words):
        known = WORDS_OF_WISH if index else WORDS_OF_BOARD
        if index >= many or word not in known:
            raise BadWords(index)
    if len(words) < many:
        raise BadWords(len(words))


def first_refused(notice, words):
    """The index of the first wrong word, and the board of which an answer is due, None if all are right."""
    for index, board in enumerate(due_boards(notice)):
        if is_crossed(board) != (words[index] != NONE):
            return index, board
    return None


def refusal(notice, words):
    """The index of the first wrong word, and an answer that refuses it, None if all are right."""
    need_words(notice, words)
    found = first_refused(notice, words)
    if found is None:
        return None
    index, board = found
    return index, right_answer(board)


def is_refusal(notice, words, thing):
    """Whether any object is the index of the first wrong word and an answer that refuses it."""
    need_words(notice, words)
    found = first_refused(notice, words)
    if found is None or not is_pair(thing):
        return False
    index, board = found
    return is_integer(thing[0]) and thing[0] == index and is_right_answer(board, thing[1])
