"""HOUSES: a LOWER that is led by ACTS, and stays within PINS; ACTS can be taken back."""

from turnsall.closures import can_be_put, can_be_taken, lot_of, mask_of, masks_ahead
from turnsall.dearest import Dearest
from turnsall.errors import BadActs, BadItem, BadNumber, BadPins, NothingLeft, TooMany, TurnError
from turnsall.kinds import is_number, is_tuple_of, plain
from turnsall.nearests import nearest_ends
from turnsall.pinsets import PinSet
from turnsall.tallies import Tally
from turnsall.wanted import wanted_item, wanted_lower, wanted_order, wanted_worths

MOST_ACTS = 300
ACT_WORDS = ("do", "back", "in", "out", "free", "go")


class Standing:
    """How a HOUSE stands behind an ACT, or, where this is None, at first; it is never changed."""

    def __init__(self, act, lot, pin_set):
        self.act = act
        self.lot = lot
        self.pin_set = pin_set
        self.pin_pair = pin_set.pair()


class Begun:
    """How a HOUSE stood when a block of a TRIAL began, and what was so ahead of it."""

    def __init__(self, history, outer):
        self.history = history
        self.outer = outer


class Trial:
    """A manager of blocks behind which a HOUSE stands as it did when they began."""

    def __init__(self, house, kept):
        self._house = house
        self._kept = kept
        self._begun = None

    def __enter__(self):
        self._begun = Begun(self._kept[0], self._begun)
        return self._house

    def __exit__(self, kind, value, trace):
        self._kept.clear()
        self._kept.append(self._begun.history)
        self._begun = self._begun.outer


class House:
    """A HOUSE of an ORDER: at first without ACTS and PINS, its LOWER ()."""

    def __init__(self, order):
        self._order = wanted_order(order)
        self._ahead = masks_ahead(self._order)
        # The one thing in this list is all that is ever changed: so a TRIAL, which has it too, can put it back.
        self._kept = [(Standing(None, (), PinSet(self._order, 0, 0)),)]

    @property
    def order(self):
        """The ORDER, as it was passed."""
        return self._order

    @property
    def stands(self):
        """The LOWER that stands."""
        return self._kept[0][-1].lot

    @property
    def pins(self):
        """The PINS."""
        return self._kept[0][-1].pin_pair

    @property
    def acts(self):
        """All ACTS that stand, the first one ahead."""
        return tuple([standing.act for standing in self._kept[0][1:]])

    def do(self, item):
        """Puts the item to the LOWER."""
        number = _wanted_of(item, self.can_do())
        return self._acted(("do", number), self._mask() | 1 << number, self._pin_set())

    def back(self, item):
        """Takes the item from the LOWER."""
        number = _wanted_of(item, self.can_back())
        return self._acted(("back", number), self._mask() & ~(1 << number), self._pin_set())

    def pin_in(self, item):
        """Puts the item into IN; BadPins of PINS that would clash."""
        pin_set = self._pin_set()
        number = self._wanted_beyond(item, self.pins[0])
        return self._pinned(("in", number), pin_set.inside | 1 << number, pin_set.outside)

    def pin_out(self, item):
        """Puts the item into OUT; BadPins of PINS that would clash."""
        pin_set = self._pin_set()
        number = self._wanted_beyond(item, self.pins[1])
        return self._pinned(("out", number), pin_set.inside, pin_set.outside | 1 << number)

    def free(self, item):
        """Takes the item out of IN or OUT."""
        pin_set = self._pin_set()
        inside, outside = self.pins
        number = _wanted_of(item, inside + outside)
        others = ~(1 << number)
        return self._pinned(("free", number), pin_set.inside & others, pin_set.outside & others)

    def go(self, lower):
        """Goes to the NEAREST one to the LOWER."""
        return self._gone(mask_of(wanted_lower(self._order, lower)))

    def hear(self, lower):
        """Goes to the JOIN of the LOWER and of what stands."""
        return self._gone(mask_of(wanted_lower(self._order, lower)) | self._mask())

    def heed(self, lower):
        """Goes to the MEET of the LOWER and of what stands."""
        return self._gone(mask_of(wanted_lower(self._order, lower)) & self._mask())

    def settle(self, lowers):
        """Goes to the low NEAREST one of the told LOWERS."""
        low, _ = nearest_ends(self._order, lowers)
        return self._gone(mask_of(low))

    def go_for(self, worths):
        """Goes to what is worth most of all that fits, and is within all others that are worth as much."""
        worths = wanted_worths(self._order, worths)
        pin_set = self._pin_set()
        dearest = Dearest(pin_set.open_ahead(), [worths[item] for item in pin_set.open_lot])
        return self._gone(mask_of(pin_set.lower_with(lot_of(dearest.least_mask))))

    def sure_in(self):
        """The items that all LOWERS that fit have."""
        return lot_of(self._pin_set().sure_mask)

    def sure_out(self):
        """The items that no LOWER that fits has."""
        return lot_of(self._pin_set().barred_mask)

    def open_items(self):
        """All items that are neither sure in nor sure out."""
        return self._pin_set().open_lot

    def can_do(self):
        """The items that can be put to the LOWER, and are not sure out."""
        barred = self.sure_out()
        return tuple([item for item in can_be_put(self._ahead, self.stands) if item not in barred])

    def can_back(self):
        """The items that can be taken from the LOWER, and are not sure in."""
        sure = self.sure_in()
        return tuple([item for item in can_be_taken(self._ahead, self.stands) if item not in sure])

    def left(self):
        """How many LOWERS fit."""
        return Tally(self._order).how_many(self._pin_set().open_mask)

    def undo(self, many=1):
        """Takes back as many of the last ACTS; NothingLeft if fewer stand."""
        count = plain(many)
        if not is_number(count, 1, MOST_ACTS):
            raise BadNumber(many)
        if count > len(self):
            raise NothingLeft(count)
        self._kept[0] = self._kept[0][:-count]

    def copy(self):
        """A HOUSE that stands likewise, with the same ACTS, and goes on by itself."""
        other = House(self._order)
        other._kept[0] = self._kept[0]
        return other

    def trial(self):
        """A manager of blocks behind which the HOUSE stands as it did when they began."""
        return Trial(self, self._kept)

    def __len__(self):
        return len(self._kept[0][1:])

    def __eq__(self, other):
        if not isinstance(other, House):
            return False
        return self._order == other._order and self.stands == other.stands and self.pins == other.pins

    def __ne__(self, other):
        return not self == other

    def _mask(self):
        return mask_of(self.stands)

    def _pin_set(self):
        return self._kept[0][-1].pin_set

    def _wanted_beyond(self, item, lot):
        """The item, which is not in the LOT; BadItem."""
        number = wanted_item(self._order, item)
        if number in lot:
            raise BadItem(item)
        return number

    def _pinned(self, act, inside, outside):
        """Does an ACT by which the PINS become these."""
        pin_set = PinSet(self._order, inside, outside)
        if pin_set.do_clash():
            raise BadPins(pin_set.pair())
        return self._acted(act, pin_set.nearest_mask(self._mask()), pin_set)

    def _gone(self, mask):
        """Goes to the NEAREST one to the LOWER with these bits."""
        pin_set = self._pin_set()
        return self._acted(("go", lot_of(mask)), pin_set.nearest_mask(mask), pin_set)

    def _acted(self, act, mask, pin_set):
        """Does the ACT by which the LOWER has these bits, and the PINS are these: the LOT of what moves."""
        if len(self) == MOST_ACTS:
            raise TooMany(MOST_ACTS)
        moved = lot_of(mask ^ self._mask())
        self._kept[0] += (Standing(act, lot_of(mask), pin_set),)
        return moved


def _wanted_of(item, lot):
    """The item, which is in the LOT; BadItem."""
    number = plain(item)
    if number not in lot:
        raise BadItem(item)
    return number


def under(manager, deed):
    """What deed of the HOUSE returns, called in a block over the manager."""
    with manager as house:
        return deed(house)


def led(order, acts):
    """A HOUSE led by ACTS; BadActs with the number of the first one that cannot be, -1 of no tuple of at most 300."""
    house = House(order)
    told = plain(acts)
    if not isinstance(told, tuple) or len(told) > MOST_ACTS:
        raise BadActs(-1)
    for number, act in enumerate(told):
        if not is_tuple_of(act, 2) or act[0] not in ACT_WORDS:
            raise BadActs(number)
        try:
            done_by(house, act[0], act[1])
        except TurnError:
            raise BadActs(number) from None
    return house


def done_by(house, word, thing):
    """What moves by the ACT with one of the words of ACTS."""
    if word == "do":
        return house.do(thing)
    if word == "back":
        return house.back(thing)
    if word == "in":
        return house.pin_in(thing)
    if word == "out":
        return house.pin_out(thing)
    if word == "free":
        return house.free(thing)
    return house.go(thing)
