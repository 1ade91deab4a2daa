"""Texts read line by line, word by word: BadText at the first word that cannot stand there."""

from turnsall.errors import BadText
from turnsall.kinds import plain
from turnsall.nests import MOST_DEEP, MOST_WORDS, is_figures, is_integer_word, is_leaf_word, leaf_by


class LineReader:
    """A line, and the number of the word that is to be read next."""

    def __init__(self, line, words):
        self.line = line
        self.words = words
        self.spot = 0

    def coming(self):
        """The word that is to be read next, which is not read by this."""
        if self.spot == len(self.words):
            raise BadText(self.line, self.spot)
        return self.words[self.spot]

    def one_of(self, known):
        """The next word, which is one of these."""
        word = self.coming()
        if word not in known:
            raise BadText(self.line, self.spot)
        self.spot += 1
        return word

    def number(self):
        """The next word as an integer from 0 on."""
        word = self.coming()
        if not is_figures(word):
            raise BadText(self.line, self.spot)
        self.spot += 1
        return int(word)

    def integer(self):
        """The next word as an integer."""
        word = self.coming()
        if not is_integer_word(word):
            raise BadText(self.line, self.spot)
        self.spot += 1
        return int(word)

    def nest(self):
        """The NEST that begins with the next word."""
        first = self.spot
        # The things of all tuples that are open, the outermost one first.
        begun = []
        while True:
            word = self.coming()
            if self.spot - first == MOST_WORDS:
                raise BadText(self.line, self.spot)
            if word == "(" and len(begun) < MOST_DEEP:
                begun.append([])
                self.spot += 1
                continue
            thing = self._ended(word, begun)
            self.spot += 1
            if not begun:
                return thing
            begun[-1].append(thing)

    def _ended(self, word, begun):
        """What ends with the word: the innermost tuple that is open, or what is no tuple."""
        if word == ")" and begun:
            return tuple(begun.pop())
        if not is_leaf_word(word):
            raise BadText(self.line, self.spot)
        return leaf_by(word)

    def finish(self):
        """No word is to be read any more."""
        if self.spot < len(self.words):
            raise BadText(self.line, self.spot)


def readers_of(text):
    """A reader for each line; BadText(None, None) of what is no string."""
    if not isinstance(text, str):
        raise BadText(None, None)
    return [LineReader(number, line.split(" ")) for number, line in enumerate(plain(text).split("\n"))]


def only_nest(text):
    """The NEST that is all of the text."""
    readers = readers_of(text)
    nest = nest_alone(readers[0])
    if len(readers) > 1:
        raise BadText(1, 0)
    return nest


def nest_alone(reader):
    """The NEST that is all of the line."""
    nest = reader.nest()
    reader.finish()
    return nest
