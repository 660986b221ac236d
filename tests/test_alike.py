import unittest

from tests.helper import (
    EXAMPLE, alike, alike_to, at, boxes, clean, counts, faults, headings, heads, label, last, other_rules, page, press,
    refused_only, rules, run, size,
)


class Alike(unittest.TestCase):
    def told(self, expected, ident, *calls):
        self.assertEqual(alike_to(ident, *calls), expected)

    def test_itself(self):
        self.told(["a"], "a", page(boxes('link a "A"', 'link b "B"', 'link c "A B"', 'link d "a"')))

    def test_others_before_and_behind_it(self):
        text = page(boxes('link a "A"', 'link b "A"', 'link c "B"', 'link d "A"'))
        for ident in ("a", "b", "d"):
            self.told(["a", "b", "d"], ident, text)
        self.told(["c"], "c", text)

    def test_in_the_order_of_the_page(self):
        self.told(["z", "m", "b"], "m", page(boxes("part p", '  link z "A"', 'link m "A"', 'button b "A"')))

    def test_other_roles(self):
        text = page(boxes('link a "A"', 'button b "A"', 'check c "A"', 'field d label "A"'))
        for ident in ("a", "b", "c", "d"):
            self.told(["a", "b", "c", "d"], ident, text)

    def test_acts_are_no_matter(self):
        self.told(["a", "b", "c"], "b", page(boxes(
            'link a "A" press hide:a', 'link b "A" press show:a', 'link c "A" off press show:a')))

    def test_names_from_whatever_source(self):
        self.told(["a", "b", "c", "d", "e"], "c", page(boxes(
            'link a "A"', 'link b label "A"', "link c by p", "link d hint p", "link e", '  p k "A"', 'p p "A"')))
        self.told(["a", "c"], "a", page(boxes(
            'link a "A B"', "link b by q p", "link c by p q", 'p p "A"', 'p q "B"')))

    def test_the_name_counts_not_the_inner_name_nor_the_own_text(self):
        self.told(["b", "c"], "b", page(boxes('link a "A"', 'link b "A" label "B"', 'link c "C" by p', 'p p "B"')))

    def test_only_boxes_said_by_themselves(self):
        text = page(boxes('link a "A"', 'link b "A" hidden', "part p hidden", '  link c "A"', 'h1 h "H"',
                          '  link d "A"', "  part q", '    link e "A"', 'link f "A"'))
        for ident in ("a", "b", "c", "d", "e", "f"):
            self.told(["a", "f"], ident, text)

    def test_only_boxes_that_take_the_focus(self):
        text = page(boxes('p a "A"', 'h1 b "A"', 'image c label "A"', 'part d label "A"', 'link e "A"'))
        for ident in ("a", "b", "c", "d", "e"):
            self.told(["e"], ident, text)
        self.told([], "a", page(boxes('p a "A"', 'h1 b "A"')))
        self.assertEqual(last(page(boxes('p a "A"')), alike("a")), [0])

    def test_a_name_that_is_nothing(self):
        text = page(boxes("link a", 'link b "B"', "field c", "p d", "image e", "check f hidden", "button g"))
        for ident in ("a", "c", "d", "e", "f", "g", "top"):
            self.told(["a", "c", "g"], ident, text)
        self.told(["b"], "b", text)

    def test_an_own_text_that_is_no_name(self):
        self.told(["a", "b"], "a", page(boxes('field a "A"', "field b", 'link c "A"')))

    def test_page_itself(self):
        text = page('page top label "A"\n  link a "A"\n')
        self.told(["a"], "top", text)
        self.told(["top", "a"], "a", text, rules(other_rules(page="page page focus from label")))

    def test_number_by_number(self):
        self.assertEqual(last(page(boxes('link abcdef "A"', 'link b "A"')), alike("b")),
                         [2, 6, 97, 98, 99, 100, 101, 102, 1, 98])

    def test_after_press(self):
        text = page(boxes('link a "A" press flip:b', 'link b "A" hidden', "link c", '  p d "A"', '  p e "B" hidden',
                          "button g press flip:e"))
        self.told(["a", "c"], "a", text)
        self.told(["a", "b", "c"], "a", text, press("a"))
        self.told(["a"], "a", text, press("g"))
        self.told(["c"], "c", text, press("g"))
        self.told(["a", "c"], "a", text, press("g"), press("a"), press("a"), press("g"))

    def test_after_label(self):
        text = page(boxes('link a "A"', 'link b "B"', "link c by p", "part p"))
        self.told(["a", "b"], "a", text, label("b", "A"))
        self.told(["a"], "a", text, label("b", "A"), label("b", ""))
        self.told(["a", "c"], "a", text, label("p", "A"))

    def test_after_rules(self):
        text = page(boxes('link a "A"', 'p b "A"', 'h1 c "C"', '  link d "A"', 'link e "A" label "E"'))
        self.told(["a"], "a", text)
        self.told(["a", "b"], "a", text, rules(other_rules(p="p text focus from text")))
        self.told(["a", "d"], "a", text, rules(other_rules(h1="h1 heading")))
        self.told(["a", "e"], "a", text, rules(other_rules(link="link link focus from text label")))
        self.told([], "a", text, rules(other_rules(link="link link from text")))
        self.told([], "a", text, rules(other_rules(page="page page whole")))

    def test_new_object(self):
        self.assertEqual(run(alike("top"), rules(other_rules(page="page page focus")), alike("top")),
                         [[0], [5], [1, 3, 116, 111, 112]])


class Refused(unittest.TestCase):
    BEFORE = (page(EXAMPLE), rules(other_rules(p="p text focus")), press("one"), label("pic", "Dog"))
    PROBES = (faults(), size(), clean(), counts(), headings(), heads("c"), alike("one"), alike("x"), at("z"),
              label("pic", ""), press("two"), faults(), press("z"))

    def test_no_box(self):
        for ident in ("q", "", "One", "ones", "one ", " one", "label", "link", "one\n", "\xff", "?", b"\0", "o" * 4000):
            with self.subTest(ident=ident):
                refused_only(self, -3, self.BEFORE, alike(ident), self.PROBES)

    def test_the_page_before_is_forgotten(self):
        self.assertEqual(run(page(EXAMPLE), alike("pic"), page("page top\n"), alike("pic"))[2:], [[1], [-3]])

    def test_asking_changes_nothing(self):
        self.assertEqual(run(*self.BEFORE, alike("one"), alike("x"), *self.PROBES)[6:],
                         run(*self.BEFORE, *self.PROBES)[4:])


if __name__ == "__main__":
    unittest.main()
