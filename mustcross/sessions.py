"""Sessions: a board that lives, with questions that are watched or held."""

from mustcross.boards import Board
from mustcross.deeds import board_behind, need_deed, told_deed, watched_behind
from mustcross.errors import BadQuestion, BadSession, InUse, NoCount, WouldChange
from mustcross.names import is_number
from mustcross.questions import answer_of, is_question_of, why_of


def changes(watched, ahead, behind):
    """The triples of the watched questions that another board answers otherwise; InUse for what is none there."""
    for question, _ in watched:
        if not is_question_of(behind, question):
            raise InUse(question)
    if ahead == behind:
        return []
    rows = [(question, answer_of(ahead, question), answer_of(behind, question)) for question, _ in watched]
    return [row for row in rows if row[1] != row[2]]


class Session:
    """A board that is edited while what is held stays as it is answered.

    Its state is a pair: the board, and the watched questions (see deeds). The
    deeds that were done, and those taken back, are kept as tuples of pairs:
    the deed, and the state ahead of it, or behind it if it was taken back.
    """

    def __init__(self):
        self._state = (Board([], [], []), ())
        self._done = ()
        self._taken = ()

    def __eq__(self, other):
        return isinstance(other, Session) and self._state == other._state

    def now(self):
        """The board."""
        return self._state[0]

    def watched(self):
        """The triples of the watched questions, their answers, and whether they are held, as they came."""
        board, watched = self._state
        return [(question, answer_of(board, question), is_held) for question, is_held in watched]

    def is_question(self, thing):
        """Whether any object is a question now."""
        return is_question_of(self.now(), thing)

    def answer(self, question):
        """The answer of a question."""
        if not self.is_question(question):
            raise BadQuestion(question)
        return answer_of(self.now(), question)

    def _state_behind(self, deed):
        need_deed(deed)
        board, watched = self._state
        return board_behind(board, deed), watched_behind(board, watched, deed)

    def would(self, deed):
        """What do would return if nothing were held."""
        board, watched = self._state
        return changes(watched, board, self._state_behind(deed)[0])

    def do(self, deed):
        """Does a deed, and returns the triples of the watched questions that are answered otherwise behind it."""
        board, watched = self._state
        state = self._state_behind(deed)
        found = changes(watched, board, state[0])
        held = [question for question, is_held in watched if is_held]
        for question, ahead, behind in found:
            if question in held:
                raise WouldChange(question, why_of(state[0], question, ahead, behind))
        self._done = (*self._done, (told_deed(deed), self._state))
        self._taken = ()
        self._state = state
        return found

    def count(self):
        """How many deeds are done and not taken back."""
        return len(self._done)

    def deeds(self):
        """The list of the deeds that are done and not taken back."""
        return [deed for deed, _ in self._done]

    def undo(self):
        """Takes the last deed back, and returns it, None if there is none."""
        if not self._done:
            return None
        deed, state = self._done[-1]
        self._done = self._done[:-1]
        self._taken = (*self._taken, (deed, self._state))
        self._state = state
        return deed

    def again(self):
        """Does again what was taken back last, and returns it, None if there is nothing."""
        if not self._taken:
            return None
        deed, state = self._taken[-1]
        self._taken = self._taken[:-1]
        self._done = (*self._done, (deed, self._state))
        self._state = state
        return deed

    def copy(self):
        """Another session, the same in all this, that goes on by itself."""
        other = Session()
        other._state = self._state
        other._done = self._done
        other._taken = self._taken
        return other

    def at(self, number):
        """A session as this one was behind so many deeds, with nothing to be done again."""
        if not is_number(number) or number > len(self._done):
            raise NoCount(number)
        other = self.copy()
        while other.count() > number:
            other.undo()
        other._taken = ()
        return other

    def trial(self, work):
        """Calls a function with the session, returns what it returns, and puts all back as it was."""
        state = self._state
        done = self._done
        taken = self._taken
        try:
            return work(self)
        finally:
            self._state = state
            self._done = done
            self._taken = taken


def need_session(session):
    """BadSession for what is no Session."""
    if not isinstance(session, Session):
        raise BadSession(session)


def session_with(board, watched):
    """A session with a board and watched questions, no deed done."""
    session = Session()
    session._state = (board, tuple(watched))
    return session
