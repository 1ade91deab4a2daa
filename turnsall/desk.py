"""Desks: a HOUSE of the ORDER of a TERM, led by lines."""

from turnsall.errors import TooMany, TurnError
from turnsall.house import House, done_by
from turnsall.kinds import plain
from turnsall.readers import LineReader, only_nest
from turnsall.texts import nest_text
from turnsall.wantedterms import wanted_term, wanted_term_solution

# The words of the ACTS that want an item.
ITEM_WORDS = ("do", "back", "in", "out", "free")
TELLING_WORDS = ("lower", "solution", "can", "may", "sure", "open", "left", "acts")


class Desk:
    """A desk for the TERM with this text."""

    def __init__(self, text):
        self._term = only_nest(text)
        self._kind = wanted_term(self._term)
        self._house = House(self._kind.bare)

    @property
    def term(self):
        """The TERM."""
        return self._term

    @property
    def house(self):
        """The HOUSE that is led."""
        return self._house

    def say(self, line):
        """The answer to a line; "no" to what is none, or is refused."""
        if not isinstance(line, str):
            return "no"
        try:
            return self._answer(LineReader(0, plain(line).split(" ")))
        except (TurnError, TooMany):
            return "no"

    def _answer(self, reader):
        word = reader.one_of(ITEM_WORDS + TELLING_WORDS + ("go", "undo"))
        if word in ITEM_WORDS:
            item = reader.integer()
            reader.finish()
            return nest_text(done_by(self._house, word, item))
        if word == "go":
            solution = reader.nest()
            reader.finish()
            lower = self._kind.lower_at(wanted_term_solution(self._kind, solution))
            return nest_text(self._house.go(lower))
        reader.finish()
        return self._undone() if word == "undo" else self._told(word)

    def _undone(self):
        """Takes back the last ACT, if there is one."""
        if len(self._house) == 0:
            return "nothing"
        self._house.undo()
        return "done"

    def _told(self, word):
        """The answer to a word by which nothing is done."""
        house = self._house
        if word == "lower":
            return nest_text(house.stands)
        if word == "solution":
            return nest_text(self._kind.solution_at(house.stands))
        if word == "can":
            return nest_text(house.can_do())
        if word == "may":
            return nest_text(house.can_back())
        if word == "sure":
            return nest_text((house.sure_in(), house.sure_out()))
        if word == "open":
            return nest_text(house.open_items())
        return str(house.left() if word == "left" else len(house))
