"""The calls on one object, and their answers."""

from saidfaults.finding import FINDERS, find_faults, head_places, heading_places, level_at
from saidfaults.forms import is_saying, require
from saidfaults.pagetexts import read_page
from saidfaults.refusals import CannotPress, DoesNothing, HasNoColumn, NoSuchBox, NoSuchFault, WrongText
from saidfaults.ruletexts import RULES_AT_FIRST, read_rules
from saidfaults.signs import counted, text_of
from saidfaults.states import State, can_be_pressed, press_box
from saidfaults.views import View

PAGE_AT_FIRST = "page top\n"
KINDS_WITH_HEADS = ("cell", "th")


class Screen:
    """The object of the calls: a page, its rules and its state."""

    def __init__(self):
        self.page = read_page(PAGE_AT_FIRST)
        self.rules = read_rules(RULES_AT_FIRST)
        self.state = State(self.page)

    def view_now(self):
        return View(self.page, self.rules, self.state)

    def faults_now(self):
        return find_faults(self.view_now())

    def place_named(self, ident):
        if ident not in self.page.places:
            raise NoSuchBox()
        return self.page.places[ident]


class Calls:
    """The list that is handed in, read number by number and never changed."""

    def __init__(self, numbers):
        self.numbers = numbers
        self.next_place = 0

    def are_left(self):
        return self.next_place < len(self.numbers)

    def take_number(self):
        number = self.numbers[self.next_place]
        self.next_place += 1
        return number

    def take_text(self):
        size = self.take_number()
        start = self.next_place
        self.next_place = start + size
        return text_of(self.numbers[start:start + size])


def told_faults(found):
    told = [len(found)]
    for kind, ident, other in found:
        told.append(kind)
        told.extend(counted(ident))
        told.extend(counted(other))
    return told


def told_boxes(page, places):
    told = [len(places)]
    for place in places:
        told.extend(counted(page.boxes[place].ident))
    return told


def call_page(screen, calls):
    screen.page = read_page(calls.take_text())
    screen.state = State(screen.page)
    return [len(screen.page.boxes)]


def call_rules(screen, calls):
    screen.rules = read_rules(calls.take_text())
    return [len([kind for kind in screen.rules if screen.rules[kind].focus])]


def call_press(screen, calls):
    place = screen.place_named(calls.take_text())
    if not screen.page.boxes[place].does_something():
        raise DoesNothing()
    if not can_be_pressed(screen.page, screen.state, place):
        raise CannotPress()
    press_box(screen.page, screen.state, place)
    return [screen.state.hidden.count(True), screen.state.on.count(True)]


def call_label(screen, calls):
    # Both texts are taken ahead of any refusal, so that the call behind this one is read from its beginning.
    ident = calls.take_text()
    label = calls.take_text()
    box = screen.page.boxes[screen.place_named(ident)]
    require(label == "" or is_saying(label))
    told = counted(box.label)
    box.label = label
    return told


def call_faults(screen, calls):
    return told_faults(screen.faults_now())


def call_only(screen, calls):
    wanted = calls.take_number()
    if not 1 <= wanted <= len(FINDERS):
        raise NoSuchFault()
    return told_faults([fault for fault in screen.faults_now() if fault[0] == wanted])


def call_at(screen, calls):
    ident = calls.take_text()
    screen.place_named(ident)
    kinds = [fault[0] for fault in screen.faults_now() if fault[1] == ident]
    return [len(kinds)] + kinds


def call_clean(screen, calls):
    return [1 if screen.faults_now() == [] else 0]


def call_counts(screen, calls):
    kinds = [fault[0] for fault in screen.faults_now()]
    return [kinds.count(kind) for kind in range(1, len(FINDERS) + 1)]


def call_headings(screen, calls):
    view = screen.view_now()
    places = heading_places(view)
    told = [len(places)]
    for place in places:
        told.append(level_at(view, place))
        told.extend(counted(screen.page.boxes[place].ident))
    return told


def call_heads(screen, calls):
    place = screen.place_named(calls.take_text())
    if screen.page.boxes[place].kind not in KINDS_WITH_HEADS:
        raise HasNoColumn()
    return told_boxes(screen.page, head_places(screen.view_now(), place))


def call_alike(screen, calls):
    place = screen.place_named(calls.take_text())
    view = screen.view_now()
    # A name that is nothing is a name like others here: it finds all that have none.
    alike = [other for other in view.focus_places() if view.names[other] == view.names[place]]
    return told_boxes(screen.page, alike)


def call_size(screen, calls):
    view = screen.view_now()
    return [len(screen.page.boxes), len(view.focus_places()), len(find_faults(view))]


CALLS = {
    0: call_page,
    1: call_rules,
    2: call_press,
    3: call_label,
    4: call_faults,
    5: call_only,
    6: call_at,
    7: call_clean,
    8: call_counts,
    9: call_headings,
    10: call_heads,
    11: call_alike,
    12: call_size,
}


def answer_of(screen, calls):
    doing = CALLS[calls.take_number()]
    try:
        return doing(screen, calls)
    except WrongText:
        return [-1]
    except NoSuchBox:
        return [-3]
    except (DoesNothing, NoSuchFault):
        return [-5]
    except (CannotPress, HasNoColumn):
        return [-6]


def answers(calls):
    screen = Screen()
    left = Calls(calls)
    told = []
    while left.are_left():
        answer = answer_of(screen, left)
        told.append(len(answer))
        told.extend(answer)
    return told
