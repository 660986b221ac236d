"""Boxes, and the page in which they stand."""

KINDS = (
    "page", "part", "h1", "h2", "h3", "p", "link", "button", "field", "check",
    "list", "item", "table", "row", "cell", "th", "image", "live", "modal",
)


class Box:
    """One box as the page tells it; what it hasn't is empty or False."""

    def __init__(self, deep, kind, ident):
        self.deep = deep
        self.kind = kind
        self.ident = ident
        self.text = ""
        self.label = ""
        self.by = []
        self.hint = ""
        self.hidden = False
        self.off = False
        self.on = False
        self.acts = []

    def does_something(self):
        return self.kind == "check" or len(self.acts) > 0


class Page:
    """Boxes in order, told by their places; the first is the only one that stands in none."""

    def __init__(self, boxes):
        self.boxes = boxes
        self.places = {}
        for place, box in enumerate(boxes):
            self.places[box.ident] = place
        self.around = [place_around(boxes, place) for place in range(len(boxes))]
        self.own = [own_places(self.around, place) for place in range(len(boxes))]


def place_around(boxes, place):
    for before in range(place - 1, -1, -1):
        if boxes[before].deep < boxes[place].deep:
            return before
    return None


def own_places(around, place):
    return [inside for inside, holder in enumerate(around) if holder == place]


def places_around(page, place):
    found = []
    holder = page.around[place]
    while holder is not None:
        found.append(holder)
        holder = page.around[holder]
    return found
