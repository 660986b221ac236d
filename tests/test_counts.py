import unittest

from tests.helper import (
    EXAMPLE, at, boxes, clean, counts, faults, label, last, only, other_rules, page, press, refused_only, rules, run,
    size,
)

NONE = [0] * 9
GOOD = boxes(
    'h1 a "A"', 'h2 b "B"', 'link c "C" press hide:a', 'field d by e hint e', 'p e "E"', 'image f label "F"',
    "table t", "  row r", '    th h "H"', "  row s", "    cell i", 'check k "K" on')

# For each kind of faults: calls after which a page has one of this kind and no other, and calls that mend it.
WITH_ONE = {
    1: ([page(boxes("image a"))], [label("a", "A")]),
    2: ([page(boxes('link a "A" press show:b', 'link b "A" press hide:b'))], [press("b")]),
    3: ([page(boxes('h1 a "A"', 'h2 b "B"', 'h3 c "C"', 'link d "D" press flip:b')), press("d")], [press("d")]),
    4: ([page(boxes('button a "Go"')), label("a", "Send")], [label("a", "Go on")]),
    5: ([page(boxes("table t", "  row r", "    th h", "  row s", "    cell c", 'link d "D" press flip:h')), press("d")],
        [press("d")]),
    6: ([page(boxes("p a hint b", "part b"))], [label("b", "B")]),
    7: ([page(boxes("p a by b top", "part b"))], [label("top", "T")]),
    8: ([page(boxes('check a "A"')), rules(other_rules(check="check check from text"))], [rules(other_rules())]),
    9: ([page(boxes('h1 a "A"', '  link b "B"'))], [rules(other_rules(h1="h1 heading from text"))]),
}


def one_of(kind):
    return [1 if k == kind else 0 for k in range(1, 10)]


class Clean(unittest.TestCase):
    def test_new_object(self):
        self.assertEqual(last(clean()), [1])

    def test_page_without_faults(self):
        self.assertEqual(last(page(GOOD), clean()), [1])

    def test_a_fault_of_each_kind(self):
        for kind, (calls, mending) in WITH_ONE.items():
            with self.subTest(kind=kind):
                self.assertEqual(last(*calls, clean()), [0])
                self.assertEqual(last(*calls, *mending, clean()), [1])

    def test_many_faults(self):
        self.assertEqual(last(page(EXAMPLE), clean()), [0])

    def test_in_the_state_that_the_page_is_in(self):
        text = boxes('button a "A" press flip:b', "part b hidden", "  image c")
        told = run(page(text), clean(), press("a"), clean(), label("c", "C"), clean(), label("c", ""), clean(),
                   press("a"), clean())
        self.assertEqual([one[0] for one in told[1::2]], [1, 0, 1, 0, 1])

    def test_by_the_rules_that_are_in_force(self):
        told = run(page(GOOD), rules(other_rules(p="p text focus from label")), clean(), rules("no"), clean(),
                   rules(other_rules()), clean())
        self.assertEqual([one[0] for one in told[2:]], [0, -1, 0, 4, 1])

    def test_another_page(self):
        self.assertEqual(run(page(EXAMPLE), clean(), page(GOOD), clean(), page("no"), clean())[1::2], [[0], [1], [1]])


class Counts(unittest.TestCase):
    def test_new_object(self):
        self.assertEqual(last(counts()), NONE)

    def test_page_without_faults(self):
        self.assertEqual(last(page(GOOD), counts()), NONE)

    def test_a_fault_of_each_kind(self):
        for kind, (calls, mending) in WITH_ONE.items():
            with self.subTest(kind=kind):
                self.assertEqual(last(*calls, counts()), one_of(kind))
                self.assertEqual(last(*calls, *mending, counts()), NONE)

    def test_several_of_a_kind(self):
        self.assertEqual(last(page(boxes("image a", "image b", "modal c", "h1 d", "h3 e")), counts()),
                         [5, 0, 1, 0, 0, 0, 0, 0, 0])
        self.assertEqual(last(page(boxes("table t", "  row r", "    cell a", "    cell b", "    cell c")), counts()),
                         [0, 0, 0, 0, 3, 0, 0, 0, 0])
        self.assertEqual(
            last(page(boxes('link a "A"', 'link b "A" press hide:a', 'link c "A" press hide:b')), counts()),
            [0, 2, 0, 0, 0, 0, 0, 0, 0])

    def test_several_kinds_at_one_box(self):
        other = rules(other_rules(h2="h2 heading focus whole from by"))
        self.assertEqual(last(other, page(boxes('h2 b "B" by e hint e', "p e")), counts()),
                         [1, 0, 1, 1, 0, 1, 1, 0, 0])

    def test_all_kinds_at_once(self):
        other = rules(other_rules(check="check check from text"))
        text = boxes("image a", 'link b "B" press hide:a', 'link c "B"', 'h2 d "D"', '  link e "E"',
                     'button f "F" label "G"', "p g by a hint a", "table t", "  row r", "    cell h", "check i")
        self.assertEqual(last(other, page(text), counts()), [1] * 9)

    def test_after_press_label_and_rules(self):
        told = run(page(EXAMPLE), press("one"), counts(), label("pic", "Dog"), counts(),
                   rules(other_rules(check="check check", image="image image")), counts())
        self.assertEqual(told[2::2], [
            [3, 1, 1, 1, 1, 2, 1, 0, 0],
            [2, 1, 1, 1, 1, 2, 1, 0, 0],
            [2, 1, 1, 1, 1, 2, 1, 1, 0],
        ])

    def test_agree_with_the_other_calls(self):
        for calls in [[page(EXAMPLE)], [page(GOOD)]] + [calls for calls, mending in WITH_ONE.values()]:
            told = run(*calls, counts(), faults(), size(), *[only(k) for k in range(1, 10)])[len(calls):]
            self.assertEqual(sum(told[0]), told[1][0])
            self.assertEqual(sum(told[0]), told[2][2])
            self.assertEqual(told[0], [one[0] for one in told[3:]])


class Asking(unittest.TestCase):
    def test_changes_nothing(self):
        before = (page(EXAMPLE), press("one"), label("pic", "Dog"))
        probes = (faults(), size(), label("pic", ""), press("z"), press("two"), faults(), at("z"))
        for asking in (clean(), counts()):
            self.assertEqual(run(*before, asking, asking, *probes)[5:], run(*before, *probes)[3:])

    def test_a_refused_call_ahead_is_no_matter(self):
        for number, refused in ((-1, page("page")), (-1, rules("")), (-6, press("c")), (-3, label("x", "")),
                                (-1, label("b", "B ")), (-5, only(10)), (-3, at("x"))):
            before = (page(boxes('check a "A"', "image b", 'check c "C" off')), press("a"))
            refused_only(self, number, before, refused, (clean(), counts(), faults()))


if __name__ == "__main__":
    unittest.main()
