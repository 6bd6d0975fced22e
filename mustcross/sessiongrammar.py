"""What may come next in the lines of watched questions, behind those of a board."""

from mustcross.pools import ToldNames
from mustcross.questions import OF_PINS, PARTS

# Which of them leads to the end of the text soonest stands first.
KINDS = ("cross", "ring", "count", "joined", "apart")


class OpenQuestions:
    """The questions about a board that did not stand yet.

    A row is what stands of a question, its word first.
    """

    def __init__(self, places, pins):
        self._places = list(places)
        self._pins = list(pins)
        self._stood = {}

    def stand(self, question):
        """A question, a tuple, stands now."""
        for many in range(1, len(question) + 1):
            part = question[:many]
            self._stood[part] = self._stood.get(part, 0) + 1

    def _choices(self, row):
        if row[0] in OF_PINS:
            return self._pins
        return [place for place in self._places if place not in row[1:]]

    def _many(self, row):
        # How many places may stand next does not hang on which ones stand.
        many = 1
        fewer = 0
        for _ in range(len(row), PARTS[row[0]] + 1):
            many = many * max(0, len(self._choices(row)) - fewer)
            fewer += 0 if row[0] in OF_PINS else 1
        return many

    def _is_left(self, row):
        return self._stood.get(tuple(row), 0) < self._many(row)

    def kinds(self):
        """The words with which a question that is left begins."""
        return [kind for kind in KINDS if self._is_left([kind])]

    def next_places(self, row):
        """The places that may stand behind a row of a question that is left."""
        return [place for place in self._choices(row) if self._is_left([*row, place])]


class QuestionLines:
    """The lines of watched questions that were read, and what may come next."""

    def __init__(self):
        self._questions = OpenQuestions([], [])
        self._watched = []
        # What stands of a line, its first word first, empty at its begin.
        self._row = []

    def begin(self, board):
        """The lines of the board stand."""
        self._questions = OpenQuestions(board.places(), board.rim())

    def watched(self):
        """The list of pairs of the questions that were read, and whether they are held."""
        return list(self._watched)

    def may_end(self):
        """Whether the text may end here."""
        return not self._row

    def words(self):
        """The words with which a line, or the question in it, may begin."""
        kinds = self._questions.kinds()
        if not self._row:
            return ["hold ", "watch "] if kinds else []
        return [f"{kind} " if PARTS[kind] else f"{kind}\n" for kind in kinds]

    def names(self):
        """The names that may come next in a question, None ahead of it."""
        if len(self._row) < 2:
            return None
        return ToldNames(self._questions.next_places(self._row[1:]))

    def behind(self, name):
        """The words that may come behind a name that may come next."""
        return ["\n"] if len(self._row) == PARTS[self._row[1]] + 1 else [" "]

    def take(self, name, word):
        """A name and the word behind it stand, ahead of all names the word alone."""
        self._row.append(name if len(self._row) > 1 else word.strip())
        if word.endswith("\n"):
            question = tuple(self._row[1:])
            self._questions.stand(question)
            self._watched.append((question, self._row[0] == "hold"))
            self._row = []
