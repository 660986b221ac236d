"""The program against a second writing of the document: expressions for the forms, and words taken one by one."""

import random
import re
import unittest

from saidfaults.pages import answers
from tests.helper import (
    FIRST_RULES, alike, at, clean, counts, faults, headings, heads, label, only, page, press, rules, size,
)

KINDS = "page part h1 h2 h3 p link button field check list item table row cell th image live modal".split()
KEPT = "label|by|hint|hidden|off|on|order|press"
IDENT = r"(?!(?:%s)(?![a-z]))[a-z]{1,6}(?![a-z])" % KEPT
SAYING = r'(?=[^"]{1,20}")[A-Za-z0-9]+(?: [A-Za-z0-9]+)*'
LINE = re.compile(
    r'(?P<blanks>(?:  ){0,5})(?P<kind>%s) (?P<ident>%s)(?: "(?P<text>%s)")?(?: label "(?P<label>%s)")?'
    r'(?: by (?P<by>%s(?: %s){0,2}))?(?: hint (?P<hint>%s))?(?P<hidden> hidden)?(?P<off> off)?(?P<on> on)?'
    r'(?: order [1-9])?(?: press (?P<acts>(?:show|hide|flip):%s(?: (?:show|hide|flip):%s){0,2}))?'
    % ("|".join(KINDS), IDENT, SAYING, SAYING, IDENT, IDENT, IDENT, IDENT, IDENT))
RULE = re.compile(
    r"(?P<kind>[a-z0-9]+) (?P<role>(?!(?:focus|whole|from)(?![a-z]))[a-z]{1,8})(?P<focus> focus)?(?P<whole> whole)?"
    r"(?: from (?P<sources>(?:by|label|text|kids|hint)(?: (?:by|label|text|kids|hint))*))?")


def model_page(text):
    if not text.endswith("\n"):
        return None
    matches = [LINE.fullmatch(line) for line in text[:-1].split("\n")]
    if None in matches or len(matches) > 16:
        return None
    boxes = []
    for match in matches:
        box = match.groupdict()
        box["deep"] = len(box["blanks"]) // 2
        box["by"] = (box["by"] or "").split()
        box["acts"] = [tuple(act.split(":")) for act in (box["acts"] or "").split()]
        box["around"] = None
        for before in boxes:
            if before["deep"] < box["deep"]:
                box["around"] = before
        boxes.append(box)
    return boxes if model_fits(boxes) else None


def model_fits(boxes):
    idents = [box["ident"] for box in boxes]
    fits = len(set(idents)) == len(idents)
    for k, box in enumerate(boxes):
        first = box["kind"] == "page" and box["deep"] == 0 and not box["hidden"]
        other = box["kind"] != "page" and k > 0 and 1 <= box["deep"] <= boxes[k - 1]["deep"] + 1
        fits = fits and (first if k == 0 else other)
        fits = fits and (not box["on"] or box["kind"] == "check")
        fits = fits and (not box["acts"] or box["kind"] in ("link", "button", "check"))
        fits = fits and len(set(box["by"])) == len(box["by"])
        named = box["by"] + [act[1] for act in box["acts"]] + ([box["hint"]] if box["hint"] else [])
        fits = fits and set(named) <= set(idents)
    if not fits:
        return False
    for box in boxes[1:]:
        pair = (box["around"]["kind"], box["kind"])
        inside = pair in (("table", "row"), ("row", "cell"), ("row", "th"), ("list", "item"))
        free = pair[0] not in ("table", "row", "list") and pair[1] not in ("row", "cell", "th", "item")
        if not inside and not free:
            return False
    return True


def model_rules(text):
    if not text.endswith("\n"):
        return None
    matches = [RULE.fullmatch(line) for line in text[:-1].split("\n")]
    if None in matches or [match["kind"] for match in matches] != KINDS:
        return None
    found = {}
    for match in matches:
        sources = (match["sources"] or "").split()
        if len(set(sources)) != len(sources):
            return None
        found[match["kind"]] = dict(match.groupdict(), sources=sources)
    return found


class Model:
    def __init__(self):
        self.boxes = model_page("page top\n")
        self.rules = model_rules(FIRST_RULES)

    def named(self, ident):
        return [box for box in self.boxes if box["ident"] == ident][0]

    def own(self, box):
        return [inside for inside in self.boxes if inside["around"] is box]

    def around(self, box):
        return [] if box["around"] is None else [box["around"]] + self.around(box["around"])

    def visible(self, box):
        return not any(one["hidden"] for one in [box] + self.around(box))

    def said(self, box):
        return self.visible(box) and not any(self.rules[one["kind"]]["whole"] for one in self.around(box))

    def focus(self, box):
        return self.rules[box["kind"]]["focus"]

    def name(self, box, inner):
        for source in self.rules[box["kind"]]["sources"]:
            names = []
            if source in ("label", "text"):
                names = [box[source] or ""]
            elif source == "kids":
                names = [self.name(kid, True) for kid in self.own(box) if not kid["hidden"]]
            elif source == "by" and not inner:
                names = [self.name(self.named(ident), True) for ident in box["by"]]
            elif source == "hint" and not inner and box["hint"]:
                names = [self.name(self.named(box["hint"]), True)]
            if any(names):
                return " ".join(filter(None, names))
        return ""

    def press(self, ident):
        box = self.named(ident)
        if box["kind"] != "check" and not box["acts"]:
            return [-5]
        modals = [one for one in self.boxes if one["kind"] == "modal" and self.visible(one)]
        outside = modals and all(one is not modals[-1] for one in self.around(box))
        if box["off"] or not self.visible(box) or outside:
            return [-6]
        if box["kind"] == "check":
            box["on"] = not box["on"]
        for verb, target in box["acts"]:
            one = self.named(target)
            one["hidden"] = {"show": False, "hide": True, "flip": not one["hidden"]}[verb]
        return [sum(bool(one["hidden"]) for one in self.boxes), sum(bool(one["on"]) for one in self.boxes)]

    def heads(self, cell):
        column = [one is cell for one in self.own(cell["around"])].index(True)
        table = cell["around"]["around"]
        heads = list(self.own(cell["around"]))
        for above in self.own(table):
            if above is cell["around"]:
                break
            heads += self.own(above)[column:column + 1]
        return [one for one in heads if one["kind"] == "th" and self.visible(one)]

    def faults(self):
        found = []
        level = 0
        for k, box in enumerate(self.boxes):
            said = self.said(box)
            focus = self.focus(box)
            name = self.name(box, False)
            kind = box["kind"]
            heading = int(kind[1]) if kind in ("h1", "h2", "h3") else 0
            rivals = [
                one["ident"] for one in self.boxes[:k] if self.said(one) and self.focus(one)
                and self.rules[one["kind"]]["role"] == self.rules[kind]["role"]
                and name and self.name(one, False) == name and one["acts"] != box["acts"]]
            hint = box["hint"]
            there = {
                1: said and not name and (focus or kind in ("image", "modal") or heading),
                2: said and focus and rivals,
                3: said and heading > level + 1,
                4: said and focus and name.find(box["text"] or "") < 0,
                5: said and kind == "cell" and not self.heads(box),
                6: said and hint and not self.name(self.named(hint), True),
                7: said and box["by"] and not any(self.name(self.named(one), True) for one in box["by"]),
                8: self.visible(box) and (kind == "check" or box["acts"]) and not box["off"] and not focus,
                9: self.visible(box) and focus and not said,
            }
            if heading and said:
                level = heading
            others = {2: rivals[0] if rivals else "", 6: hint}
            found += [(number, box["ident"], others.get(number, "")) for number in there if there[number]]
        return found

    def stops(self):
        return [box for box in self.boxes if self.said(box) and self.focus(box)]

    def sized(self):
        return [len(self.boxes), len(self.stops()), len(self.faults())]

    def counted(self):
        found = [0] * 9
        for fault in self.faults():
            found[fault[0] - 1] += 1
        return found

    def headings(self):
        found = [box for box in self.boxes if re.fullmatch("h[123]", box["kind"]) and self.said(box)]
        return [len(found)] + [
            number for box in found for number in [int(box["kind"][1])] + told_text(box["ident"])]

    def headed(self, ident):
        if self.named(ident)["kind"] not in ("cell", "th"):
            return [-6]
        found = [box["ident"] for box in self.heads(self.named(ident))]
        return told_texts([box["ident"] for box in self.boxes if box["ident"] in found])

    def alike(self, ident):
        name = self.name(self.named(ident), False)
        return told_texts([box["ident"] for box in self.stops() if self.name(box, False) == name])

    def labelled(self, ident, saying):
        if saying and not re.fullmatch(SAYING + '"', saying + '"'):
            return [-1]
        had = self.named(ident)["label"] or ""
        self.named(ident)["label"] = saying
        return told_text(had)

    def answer(self, verb, *given):
        if verb == "page":
            boxes = model_page(*given)
            self.boxes = boxes or self.boxes
            return [len(boxes)] if boxes else [-1]
        if verb == "rules":
            found = model_rules(*given)
            self.rules = found or self.rules
            return [sum(bool(rule["focus"]) for rule in found.values())] if found else [-1]
        asked = {"size": self.sized, "counts": self.counted, "headings": self.headings,
                 "clean": lambda: [0 if self.faults() else 1]}
        if verb in asked:
            return asked[verb]()
        of_a_box = {"press": self.press, "label": self.labelled, "heads": self.headed, "alike": self.alike}
        if verb in ("at", *of_a_box) and given[0] not in [box["ident"] for box in self.boxes]:
            return [-3]
        if verb in of_a_box:
            return of_a_box[verb](*given)
        if verb == "at":
            kinds = [fault[0] for fault in self.faults() if fault[1] == given[0]]
            return [len(kinds)] + kinds
        if verb == "only" and not 1 <= given[0] <= 9:
            return [-5]
        found = [fault for fault in self.faults() if verb == "faults" or fault[0] == given[0]]
        return [len(found)] + [
            number for fault in found for number in [fault[0]] + told_text(fault[1]) + told_text(fault[2])]


def told_text(text):
    return [len(text)] + list(text.encode("latin-1"))


def told_texts(texts):
    return [len(texts)] + [number for text in texts for number in told_text(text)]


CALLS = {"page": page, "rules": rules, "press": press, "label": label, "faults": faults, "only": only, "at": at,
         "clean": clean, "counts": counts, "headings": headings, "heads": heads, "alike": alike, "size": size}
IDENTS = "a b c d e f g h i j k l m n o show page".split()
SAYINGS = ["A", "B", "A B", "Go", "Go on", "5"]


def chance_box(dice, kind, deep, ident, named):
    out = "  " * deep + kind + " " + ident
    out += dice.choice(["", "", ' "%s"' % dice.choice(SAYINGS)])
    out += dice.choice(["", "", "", ' label "%s"' % dice.choice(SAYINGS)])
    out += dice.choice(["", "", "", " by " + " ".join(dice.sample(named, dice.randint(1, min(3, len(named)))))])
    out += dice.choice(["", "", "", " hint " + dice.choice(named)])
    out += dice.choice(["", "", "", "", " hidden"]) if deep else ""
    out += dice.choice(["", "", "", "", " off"])
    out += dice.choice(["", " on"]) if kind == "check" else ""
    out += dice.choice(["", "", " order %d" % dice.randint(1, 9)])
    if kind in ("link", "button", "check") and dice.random() < 0.7:
        acts = [dice.choice(["show", "hide", "flip"]) + ":" + dice.choice(named) for k in range(dice.randint(1, 3))]
        out += " press " + " ".join(acts[:dice.choice([1, 1, 3])])
    return out + "\n"


def chance_page(dice):
    count = dice.randint(1, 16)
    named = ["top"] + dice.sample(IDENTS, count - 1)
    stack = ["page"]
    out = chance_box(dice, "page", 0, "top", named)
    inside = {"table": ["row"], "row": ["cell", "th"], "list": ["item"]}
    free = [kind for kind in KINDS if kind not in ("page", "row", "cell", "th", "item")]
    for ident in named[1:]:
        if stack[-1] not in inside or dice.random() < 0.2:
            stack = stack[:dice.randint(1, len(stack))]
        stack = stack[:5]
        kind = dice.choice(inside.get(stack[-1], free + ["link", "button", "check"] * 4 + ["h1", "table", "table"]))
        out += chance_box(dice, kind, len(stack), ident, named)
        stack.append(kind)
    return out


def chance_tables(dice):
    """A page of one or two tables with many heads, and a button that shows and hides what stands there."""
    named = dice.sample("abcdefghijklmno", 15)
    out = 'page top\n  button %s "A" press %s\n' % (
        named[0], " ".join("flip:" + dice.choice(named) for k in range(3)))
    holders = []
    for ident in named[1:]:
        choices = ["table"] if not holders else ["row"] if len(holders) == 1 else ["th", "th", "cell", "cell", "row"]
        kind = dice.choice(choices + ["table"] * (dice.random() < 0.1))
        holders = holders[:{"table": 0, "row": 1}.get(kind, 2)]
        out += "  " * (len(holders) + 1) + kind + " " + ident + dice.choice(["", "", "", "", "", " hidden"]) + "\n"
        if kind in ("table", "row"):
            holders.append(kind)
    return out


def chance_rules(dice):
    out = ""
    for line in FIRST_RULES.splitlines(True):
        if dice.random() < 0.7:
            out += line
        else:
            sources = dice.sample(["by", "label", "text", "kids", "hint"], dice.randint(0, 5))
            out += line.split()[0] + " " + dice.choice(["a", "button", "link", "heading"])
            out += dice.choice(["", " focus"]) + dice.choice(["", "", " whole"])
            out += (" from " + " ".join(sources) if sources else "") + "\n"
    return out


def slip(dice, text):
    """The text with one small thing otherwise."""
    k = dice.randrange(len(text) + 1)
    words = text.split(" ")
    ways = [
        text[:k] + text[k + 1:],
        text[:k] + dice.choice(' \n":aA05?\t\xe9') + text[k:],
        text[:k] + dice.choice(' \n":aA05?\0\xff') + text[k + 1:],
        " ".join(words[:k % len(words)] + words[k % len(words) + 1:]),
        " ".join(words[:k % len(words)] + [dice.choice(words)] + words[k % len(words):]),
        " ".join(words[:k % len(words)] + [dice.choice(words)] + words[k % len(words) + 1:]),
        "".join(dice.sample(text.splitlines(True), text.count("\n"))),
    ]
    return dice.choice(ways)


def chance_call(dice, boxes):
    ident = dice.choice([box["ident"] for box in boxes] + ["x"])
    verb = dice.choice(["press"] * 6 + ["label"] * 3 + ["heads", "alike"] * 2 + list(CALLS))
    if verb == "page":
        return (verb, dice.choice([slip(dice, chance_page(dice)), chance_page(dice), chance_tables(dice)]))
    if verb == "rules":
        return (verb, chance_rules(dice) if dice.random() < 0.8 else slip(dice, chance_rules(dice)))
    if verb == "label":
        return (verb, ident, dice.choice(SAYINGS + ["", " ", "A  B"]))
    if verb == "only":
        return (verb, dice.randint(0, 10))
    working = [box["ident"] for box in boxes if box["acts"] or box["kind"] == "check"]
    if verb == "press" and working and dice.random() < 0.8:
        return (verb, dice.choice(working))
    cells = [box["ident"] for box in boxes if box["kind"] in ("cell", "th")]
    if verb == "heads" and cells and dice.random() < 0.8:
        return (verb, dice.choice(cells))
    return (verb, ident) if verb in ("press", "at", "heads", "alike") else (verb,)


def compare(test, line):
    model = Model()
    given = []
    expected = []
    for call in line:
        step(model, call, given, expected)
    test.assertEqual(answers(given), expected, line)


def step(model, call, given, expected):
    answer = model.answer(*call)
    expected += [len(answer)] + answer
    given += CALLS[call[0]](*call[1:])


class AgainstTheModel(unittest.TestCase):
    def test_lines_of_calls(self):
        dice = random.Random(1)
        for round_number in range(500):
            model = Model()
            given = []
            expected = []
            if dice.random() < 0.9:
                step(model, ("page", dice.choice([chance_page, chance_tables])(dice)), given, expected)
            for k in range(dice.randint(5, 39)):
                step(model, chance_call(dice, model.boxes), given, expected)
            self.assertEqual(answers(given), expected, given)

    def test_lines_mix_all_calls_and_refusals(self):
        dice = random.Random(5)
        for round_number in range(100):
            model = Model()
            line = [("page", chance_page(dice))] + [chance_call(dice, model_page("page top\n")) for k in range(12)]
            line += [("heads", "x"), ("alike", "x"), ("press", "x"), ("heads", "top"), ("only", 0), ("page", ""),
                     ("rules", ""), ("label", "top", " "), ("rules", chance_rules(dice)), ("label", "top", "A")]
            line += [("faults",), ("clean",), ("counts",), ("headings",), ("alike", "top"), ("at", "top"), ("only", 1)]
            dice.shuffle(line)
            given = []
            expected = []
            for call in line:
                step(model, call, given, expected)
            kept = list(given)
            self.assertEqual(answers(given), expected, given)
            self.assertEqual(given, kept)
            self.assertEqual(answers(given), expected, given)

    def test_every_box_is_asked(self):
        dice = random.Random(6)
        for round_number in range(400):
            text = dice.choice([chance_page, chance_tables])(dice)
            idents = [box["ident"] for box in model_page(text)]
            ahead = [("page", text), ("press", dice.choice(idents)), ("press", idents[-1]), ("clean",), ("counts",)]
            for verb in ("at", "heads", "alike"):
                compare(self, ahead + [(verb, ident) for ident in idents] + [("headings",), ("size",)])

    def test_pages_by_chance_are_pages(self):
        dice = random.Random(2)
        for round_number in range(300):
            text = dice.choice([chance_page, chance_tables])(dice)
            self.assertIsNotNone(model_page(text), text)
            compare(self, [("page", text)])

    def test_pages_with_a_slip(self):
        dice = random.Random(3)
        for round_number in range(4000):
            compare(self, [("page", slip(dice, chance_page(dice))), ("faults",)])

    def test_rules_with_a_slip(self):
        dice = random.Random(4)
        for round_number in range(3000):
            compare(self, [("rules", slip(dice, chance_rules(dice)))])


if __name__ == "__main__":
    unittest.main()
