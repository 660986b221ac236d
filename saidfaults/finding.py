"""The nine kinds of faults, and what they are found by: headings, and the heads of cells.

Each finder tells of one box: None if it hasn't the fault, else the other box's id, empty if there's none.
"""

LEVELS = {"h1": 1, "h2": 2, "h3": 3}
NAMED_KINDS = ("image", "h1", "h2", "h3", "modal")


def without_other(there):
    return "" if there else None


def find_nameless(view, place):
    needs_name = view.rule_at(place).focus or view.page.boxes[place].kind in NAMED_KINDS
    return without_other(view.said[place] and needs_name and view.names[place] == "")


def find_confused(view, place):
    if not view.stops_focus(place) or view.names[place] == "":
        return None
    for before in range(place):
        if view.stops_focus(before) and sounds_like(view, before, place):
            if view.page.boxes[before].acts != view.page.boxes[place].acts:
                return view.page.boxes[before].ident
    return None


def sounds_like(view, place, other):
    same_role = view.rule_at(place).role == view.rule_at(other).role
    return same_role and view.names[place] == view.names[other]


def heading_places(view):
    boxes = view.page.boxes
    return [place for place in range(len(boxes)) if view.said[place] and boxes[place].kind in LEVELS]


def level_at(view, place):
    return LEVELS[view.page.boxes[place].kind]


def find_jump(view, place):
    headings = heading_places(view)
    if place not in headings:
        return None
    before = [level_at(view, heading) for heading in headings if heading < place]
    last_level = before[-1] if len(before) > 0 else 0
    return without_other(level_at(view, place) > last_level + 1)


def find_unspoken(view, place):
    # A box without an own text has the empty one, which stands in every name.
    unspoken = view.page.boxes[place].text not in view.names[place]
    return without_other(view.stops_focus(place) and unspoken)


def find_headless(view, place):
    is_cell = view.page.boxes[place].kind == "cell"
    return without_other(is_cell and view.said[place] and head_places(view, place) == [])


def head_places(view, place):
    found = []
    for other, box in enumerate(view.page.boxes):
        if box.kind == "th" and view.visible[other] and is_over(view.page, other, place):
            found.append(other)
    return found


def is_over(page, head, place):
    head_row = page.around[head]
    row = page.around[place]
    if head_row == row:
        return True
    above = head_row < row and page.around[head_row] == page.around[row]
    return above and column_of(page, head) == column_of(page, place)


def column_of(page, place):
    return page.own[page.around[place]].index(place)


def find_empty_hint(view, place):
    hint = view.page.boxes[place].hint
    empty = hint != "" and view.inner_of(hint) == ""
    return hint if empty and view.said[place] else None


def find_empty_by(view, place):
    by = view.page.boxes[place].by
    empty = len(by) > 0 and all([view.inner_of(ident) == "" for ident in by])
    return without_other(empty and view.said[place])


def find_unreached(view, place):
    box = view.page.boxes[place]
    works = view.visible[place] and box.does_something() and not box.off
    return without_other(works and not view.rule_at(place).focus)


def find_swallowed(view, place):
    focused = view.visible[place] and view.rule_at(place).focus
    return without_other(focused and not view.said[place])


# In the order of the kinds, 1 to 9.
FINDERS = (
    find_nameless, find_confused, find_jump, find_unspoken, find_headless,
    find_empty_hint, find_empty_by, find_unreached, find_swallowed,
)


def find_faults(view):
    found = []
    for place, box in enumerate(view.page.boxes):
        for kind, finder in enumerate(FINDERS, start=1):
            other = finder(view, place)
            if other is not None:
                found.append((kind, box.ident, other))
    return found
