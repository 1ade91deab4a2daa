"""A HOUSE by trying out: it goes through all LOWERS for what the document tells of each ACT."""

from helper import fits_tried, lowers


class Model:

    def __init__(self, order):
        self.order = order
        self.everything = lowers(order)
        self.rows = [(None, (), ((), ()))]

    @property
    def stands(self):
        return self.rows[-1][1]

    @property
    def pins(self):
        return self.rows[-1][2]

    def acts(self):
        return tuple(act for act, _, _ in self.rows[1:])

    def fitting(self, pins=None):
        return fits_tried(self.order, self.pins if pins is None else pins)

    def nearest(self, lower, pins):
        fitting = fits_tried(self.order, pins)
        far = {each: len(set(each) ^ set(lower)) for each in fitting}
        near, = [each for each in fitting if far[each] == min(far.values())]
        return near

    def act(self, word, thing):
        """What moves; None of an ACT that cannot be."""
        goal = self.goal_of(word, thing)
        if goal is None:
            return None
        lower, pins = goal
        moved = tuple(sorted(set(lower) ^ set(self.stands)))
        self.rows.append(((word, thing), lower, pins))
        return moved

    def goal_of(self, word, thing):
        """The LOWER and the PINS to which the ACT leads, None if it cannot be."""
        inside, outside = self.pins
        if word == "go":
            return (self.nearest(thing, self.pins), self.pins) if thing in self.everything else None
        if not isinstance(thing, int) or not 0 <= thing < self.order[0]:
            return None
        if word in ("do", "back"):
            if (word == "do") == (thing in self.stands):
                return None
            lower = tuple(sorted(set(self.stands) ^ {thing}))
            # It fits exactly if the item is neither sure out nor sure in.
            return (lower, self.pins) if lower in self.fitting() else None
        if word == "free":
            if thing not in inside + outside:
                return None
            return self.stands, tuple(tuple(each for each in lot if each != thing) for lot in self.pins)
        lot = inside if word == "in" else outside
        if thing in lot:
            return None
        wider = tuple(sorted(lot + (thing,)))
        pins = (wider, outside) if word == "in" else (inside, wider)
        return (self.nearest(self.stands, pins), pins) if self.fitting(pins) else None

    def told(self):
        """All that is told of the HOUSE."""
        fitting = self.fitting()
        items = range(self.order[0])
        sure = tuple(item for item in items if all(item in lower for lower in fitting))
        barred = tuple(item for item in items if not any(item in lower for lower in fitting))
        return {
            "order": self.order, "stands": self.stands, "pins": self.pins, "acts": self.acts(), "len": len(self.rows) - 1,
            "sure_in": sure, "sure_out": barred, "open_items": tuple(item for item in items if item not in sure + barred),
            "can_do": tuple(item for item in items if self.goal_of("do", item)),
            "can_back": tuple(item for item in items if self.goal_of("back", item)), "left": len(fitting),
        }


def told_of(house):
    """All that a HOUSE tells."""
    return {
        "order": house.order, "stands": house.stands, "pins": house.pins, "acts": house.acts, "len": len(house),
        "sure_in": house.sure_in(), "sure_out": house.sure_out(), "open_items": house.open_items(), "can_do": house.can_do(),
        "can_back": house.can_back(), "left": house.left(),
    }


def call_of(house, word):
    return {"do": house.do, "back": house.back, "in": house.pin_in, "out": house.pin_out, "free": house.free, "go": house.go}[word]
