"""The state that a page is in: what is hidden, what is on, and what pressing does to it."""

from saidfaults.boxes import places_around


class State:
    """For each box whether it is hidden itself, and whether it is on."""

    def __init__(self, page):
        self.hidden = [box.hidden for box in page.boxes]
        self.on = [box.on for box in page.boxes]


def visible_boxes(page, state):
    visible = []
    for place, holder in enumerate(page.around):
        # What is around a box stands before it, so it is known by now.
        shown_around = holder is None or visible[holder]
        visible.append(shown_around and not state.hidden[place])
    return visible


def modal_place(page, visible):
    for place in range(len(page.boxes) - 1, -1, -1):
        if page.boxes[place].kind == "modal" and visible[place]:
            return place
    return None


def can_be_pressed(page, state, place):
    box = page.boxes[place]
    visible = visible_boxes(page, state)
    modal = modal_place(page, visible)
    reached = modal is None or modal in places_around(page, place)
    return box.does_something() and not box.off and visible[place] and reached


def press_box(page, state, place):
    box = page.boxes[place]
    if box.kind == "check":
        state.on[place] = not state.on[place]
    for verb, ident in box.acts:
        do_act(state, verb, page.places[ident])


def do_act(state, verb, place):
    if verb == "flip":
        state.hidden[place] = not state.hidden[place]
    else:
        state.hidden[place] = verb == "hide"
