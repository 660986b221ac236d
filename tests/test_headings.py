import unittest

from tests.helper import (
    EXAMPLE, at, boxes, faults, headings, headings_of, label, last, other_rules, page, press, rules, run, size,
)


class Headings(unittest.TestCase):
    def told(self, expected, *calls):
        self.assertEqual(headings_of(*calls), expected)

    def test_none_at_all(self):
        self.told([])
        self.assertEqual(last(headings()), [0])
        self.told([], page(boxes('p a "A"', 'link b "B"', "image c", "table t", "  row r", '    th h "H"')))

    def test_every_level(self):
        self.told(["1 a"], page(boxes('h1 a "A"')))
        self.told(["2 a"], page(boxes('h2 a "A"')))
        self.told(["3 a"], page(boxes('h3 a "A"')))

    def test_in_the_order_of_the_page(self):
        self.told(["3 z", "1 b", "2 y", "2 a", "1 c"],
                  page(boxes('h3 z "A"', 'h1 b "B"', 'p p "P"', 'h2 y "C"', 'h2 a "C"', 'h1 c "D"')))

    def test_number_and_text_of_each(self):
        self.assertEqual(last(page(boxes("h3 abcdef", "p b", "h1 c")), headings()),
                         [2, 3, 6, 97, 98, 99, 100, 101, 102, 1, 1, 99])

    def test_sixteen_boxes(self):
        self.told(["%d %s" % (k % 3 + 1, "abcdefghijklmno"[k]) for k in range(15)],
                  page(boxes(*["h%d %s" % (k % 3 + 1, "abcdefghijklmno"[k]) for k in range(15)])))

    def test_without_a_name_too(self):
        self.told(["1 a", "2 b"], page(boxes("h1 a", "h2 b off")))

    def test_hidden(self):
        self.told(["3 c"], page(boxes('h1 a "A" hidden', "part p hidden", '  h2 b "B"', '    p q "Q"', 'h3 c "C"')))

    def test_on_any_depth(self):
        self.told(["1 b", "2 c", "3 e"], page(boxes(
            "part a", '  h1 b "B"', "  part p", '    h2 c "C"', "list l", "  item i", '    h3 e "E"')))
        self.told(["2 d"], page(boxes("table t", "  row r", "    cell c", '      h2 d "D"')))

    def test_in_a_box_that_is_said_whole(self):
        self.told(["1 a", "3 d"], page(boxes('h1 a "A"', '  h2 b "B"', 'link l "L"', '  h1 c "C"', 'h3 d "D"')))
        self.told(["1 a"], page(boxes('h1 a "A"', "  part p", "    part q", '      h2 b "B"')))
        self.told([], page(boxes("table t", "  row r", "    th c", '      h2 d "D"')))

    def test_whatever_role_and_focus_they_have(self):
        other = rules(other_rules(h1="h1 text", h2="h2 link focus from hint", p="p heading from text"))
        self.told(["1 a", "2 b"], other, page(boxes('h1 a "A"', 'h2 b "B"', 'p c "C"')))

    def test_after_press(self):
        text = boxes('h1 a "A"', "part p", '  h2 b "B"', 'h3 c "C" hidden', 'check d "D" press flip:p flip:c')
        self.told(["1 a", "2 b"], page(text))
        self.told(["1 a", "3 c"], page(text), press("d"))
        self.told(["1 a", "2 b"], page(text), press("d"), press("d"))

    def test_after_rules(self):
        text = page(boxes('h1 a "A"', '  h2 b "B"', "part p", '  h3 c "C"'))
        self.told(["1 a", "3 c"], text)
        self.told(["1 a", "2 b", "3 c"], text, rules(other_rules(h1="h1 heading from text")))
        self.told(["1 a"], text, rules(other_rules(part="part part whole")))
        self.told([], text, rules(other_rules(page="page page whole")))

    def test_after_label_and_another_page(self):
        self.told(["2 title"], page(EXAMPLE), label("title", "Other"))
        self.told(["1 a"], page(EXAMPLE), page(boxes("h1 a")))

    def test_asking_changes_nothing(self):
        before = (page(EXAMPLE), press("two"), label("title", "Other"))
        probes = (faults(), size(), label("title", ""), press("one"), faults(), at("title"), headings())
        self.assertEqual(run(*before, headings(), *probes)[4:], run(*before, *probes)[3:])


if __name__ == "__main__":
    unittest.main()
