"""A page's text into a page; what is not a page's text is refused."""

from saidfaults.boxes import KINDS, Box, Page
from saidfaults.forms import Words, is_ident, is_saying, lines_of, require

MOST_BOXES = 16
DEEPEST = 5
MOST_BY = 3
MOST_ACTS = 3
ORDERS = ("1", "2", "3", "4", "5", "6", "7", "8", "9")
VERBS = ("show", "hide", "flip")
KINDS_WITH_ACTS = ("link", "button", "check")

# These kinds stand nowhere else, and nothing else stands in the kinds named behind them.
STANDS_IN = {"row": "table", "cell": "row", "th": "row", "item": "list"}
HOLDERS = ("table", "row", "list")


def read_page(text):
    lines = lines_of(text)
    require(len(lines) <= MOST_BOXES)
    boxes = [read_box(line) for line in lines]
    check_depths(boxes)
    page = Page(boxes)
    require(len(page.places) == len(boxes))
    check_named(page)
    check_standing(page)
    return page


def read_box(line):
    bare = line.lstrip(" ")
    blanks = len(line) - len(bare)
    require(blanks % 2 == 0 and blanks // 2 <= DEEPEST)
    words = Words(bare)
    kind = words.take()
    require(kind in KINDS)
    box = Box(blanks // 2, kind, take_ident(words))
    take_naming(words, box)
    take_standing(words, box)
    require(words.at_end())
    return box


def take_naming(words, box):
    if words.ahead().startswith('"'):
        box.text = take_saying(words)
    if words.skip("label"):
        box.label = take_saying(words)
    if words.skip("by"):
        box.by = take_by(words)
    if words.skip("hint"):
        box.hint = take_ident(words)


def take_standing(words, box):
    box.hidden = words.skip("hidden")
    box.off = words.skip("off")
    box.on = words.skip("on")
    require(box.kind == "check" or not box.on)
    # The number in the order of focus is asked for by no call: its form is looked at, and it is not kept.
    if words.skip("order"):
        require(words.take() in ORDERS)
    if words.skip("press"):
        require(box.kind in KINDS_WITH_ACTS)
        box.acts = take_acts(words)


def take_ident(words):
    word = words.take()
    require(is_ident(word))
    return word


def take_saying(words):
    pieces = [words.take()]
    while not pieces[-1].endswith('"') and not words.at_end():
        pieces.append(words.take())
    quoted = " ".join(pieces)
    require(quoted.startswith('"') and quoted.endswith('"') and is_saying(quoted[1:-1]))
    return quoted[1:-1]


def take_by(words):
    named = [take_ident(words)]
    while is_ident(words.ahead()):
        named.append(words.take())
    require(len(named) <= MOST_BY and len(set(named)) == len(named))
    return named


def take_acts(words):
    acts = [take_act(words)]
    while not words.at_end():
        acts.append(take_act(words))
    require(len(acts) <= MOST_ACTS)
    return acts


def take_act(words):
    parts = words.take().partition(":")
    require(parts[0] in VERBS and is_ident(parts[2]))
    return (parts[0], parts[2])


def check_depths(boxes):
    first = boxes[0]
    require(first.kind == "page" and first.deep == 0 and not first.hidden)
    for place in range(1, len(boxes)):
        box = boxes[place]
        require(box.kind != "page" and 1 <= box.deep <= boxes[place - 1].deep + 1)


def check_named(page):
    for box in page.boxes:
        named = box.by + [act[1] for act in box.acts]
        if box.hint != "":
            named.append(box.hint)
        require(all([ident in page.places for ident in named]))


def check_standing(page):
    for place in range(1, len(page.boxes)):
        kind = page.boxes[place].kind
        holder = page.boxes[page.around[place]].kind
        if kind in STANDS_IN:
            require(holder == STANDS_IN[kind])
        else:
            require(holder not in HOLDERS)
