"""What is heard of a page by its rules in a state: the names of boxes, and which are said by themselves."""

from saidfaults.boxes import places_around
from saidfaults.states import visible_boxes


class View:
    """All that the faults are found from, worked out once for a page, its rules and its state."""

    def __init__(self, page, rules, state):
        self.page = page
        self.rules = rules
        self.visible = visible_boxes(page, state)
        self.said = said_boxes(page, rules, self.visible)
        self.inner = inner_names(page, rules, state)
        self.names = full_names(page, rules, state, self.inner)

    def rule_at(self, place):
        return self.rules[self.page.boxes[place].kind]

    def inner_of(self, ident):
        return self.inner[self.page.places[ident]]

    def stops_focus(self, place):
        return self.said[place] and self.rule_at(place).focus

    def focus_places(self):
        return [place for place in range(len(self.page.boxes)) if self.stops_focus(place)]


def said_boxes(page, rules, visible):
    said = []
    for place in range(len(page.boxes)):
        whole_around = [rules[page.boxes[holder].kind].whole for holder in places_around(page, place)]
        said.append(visible[place] and not any(whole_around))
    return said


def put_together(names):
    return " ".join([name for name in names if name != ""])


def first_given(sources, given):
    for source in sources:
        if given[source] != "":
            return given[source]
    return ""


def given_inside(page, state, place, inner):
    box = page.boxes[place]
    kids = put_together([inner[kid] for kid in page.own[place] if not state.hidden[kid]])
    return {"by": "", "label": box.label, "text": box.text, "kids": kids, "hint": ""}


def inner_names(page, rules, state):
    inner = [""] * len(page.boxes)
    # From the last box to the first: a box's own boxes stand behind it, and are named before it needs them.
    for place in range(len(page.boxes) - 1, -1, -1):
        sources = rules[page.boxes[place].kind].sources
        inner[place] = first_given(sources, given_inside(page, state, place, inner))
    return inner


def full_names(page, rules, state, inner):
    names = []
    for place, box in enumerate(page.boxes):
        given = given_inside(page, state, place, inner)
        given["by"] = put_together([inner[page.places[ident]] for ident in box.by])
        if box.hint != "":
            given["hint"] = inner[page.places[box.hint]]
        names.append(first_given(rules[box.kind].sources, given))
    return names
