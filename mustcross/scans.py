"""Texts read sign by sign, by a grammar that tells what may come next.

A grammar is an object with these methods. It promises that whatever it lets
stand can be gone on with to a text that is read, so that the first sign which
is not taken is the first wrong one.

- names(): the names of which one comes next (an object of pools), None if
  words come next;
- words(): the words of which one comes next where no name does, the one that
  leads to the end of the text soonest first;
- behind(name): the words that may come next behind such a name, likewise;
- take(name, word): a name ("" where none was due) and a word behind it stand;
- may_end(): whether the text may end here.
"""

from mustcross.names import NAME_SIGNS


class Scan:
    """What is read of a text, from its first sign on."""

    def __init__(self, grammar):
        self._grammar = grammar
        self._name = ""
        self._word = ""
        self._names = grammar.names()

    def _words(self):
        if self._names is None:
            words = self._grammar.words()
        elif self._names.has(self._name):
            words = self._grammar.behind(self._name)
        else:
            words = []
        return [word for word in words if word.startswith(self._word)]

    def _is_of_name(self, sign):
        return self._names is not None and self._word == "" and sign in NAME_SIGNS

    def takes(self, sign):
        """Whether some text that is read goes on with this sign."""
        if self._is_of_name(sign):
            return self._names.begins(self._name + sign)
        return any([word.startswith(self._word + sign) for word in self._words()])

    def feed(self, sign):
        """Goes on over a sign that it takes."""
        if self._is_of_name(sign):
            self._name = self._name + sign
            return
        self._word = self._word + sign
        if self._word in self._words():
            self._grammar.take(self._name, self._word)
            self._name = ""
            self._word = ""
            self._names = self._grammar.names()

    def has_ended(self):
        """Whether the text may end here."""
        return self._names is None and self._word == "" and self._grammar.may_end()

    def _next_sign(self):
        words = self._words()
        if words:
            return words[0][len(self._word)]
        return [sign for sign in NAME_SIGNS if self.takes(sign)][0]

    def rest(self):
        """Goes on to the end of a text that is read, and returns the signs up to there."""
        signs = []
        while not self.has_ended():
            sign = self._next_sign()
            self.feed(sign)
            signs.append(sign)
        return "".join(signs)


def taken_signs(scan, text):
    """Feeds a text, and returns how many of its signs are taken, up to the first wrong one."""
    for index, sign in enumerate(text):
        if not scan.takes(sign):
            return index
        scan.feed(sign)
    return len(text)


def text_fault(text, grammar):
    """The line and the sign at which any object is wrong, None if the grammar reads it."""
    if not isinstance(text, str):
        return (0, 0)
    scan = Scan(grammar)
    index = taken_signs(scan, text)
    if index == len(text) and scan.has_ended():
        return None
    return (text.count("\n", 0, index) + 1, index - text.rfind("\n", 0, index))
