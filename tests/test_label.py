import unittest

from tests.helper import (
    faults, faults_of, label, last, page, press, refused_only, rules, other_rules, run, size, text_told,
)

TEXT = 'page top\n  image a\n  check b label "Old one" press hide:a\n  field c by a\n'


class Labels(unittest.TestCase):
    def told(self, *calls):
        return [text_told(one) for one in run(page(TEXT), *calls)[1:]]

    def test_tells_the_label_that_it_had(self):
        self.assertEqual(self.told(label("b", "New"), label("b", "Newer"), label("b", ""), label("b", "Last")),
                         ["Old one", "New", "Newer", ""])

    def test_several_boxes(self):
        self.assertEqual(self.told(label("a", "A"), label("top", "T"), label("a", ""), label("top", "")),
                         ["", "", "A", "T"])

    def test_sayings(self):
        for saying in ("a", "Z9", "0", "a b c d e f g h i j", "abcdefghijklmnopqrst"):
            self.assertEqual(self.told(label("a", saying), label("a", "")), ["", saying])

    def test_is_told_with_its_length(self):
        self.assertEqual(last(page(TEXT), label("b", "x")), [7] + list(b"Old one"))

    def test_counts_from_now_on(self):
        self.assertEqual(faults_of(page(TEXT)), ["1 a", "1 c", "7 c"])
        self.assertEqual(faults_of(page(TEXT), label("a", "Dog")), [])
        self.assertEqual(faults_of(page(TEXT), label("a", "Dog"), label("a", "")), ["1 a", "1 c", "7 c"])
        self.assertEqual(faults_of(page(TEXT), label("b", "")), ["1 a", "1 b", "1 c", "7 c"])

    def test_stays_with_press_and_rules(self):
        told = run(page(TEXT), label("a", "Dog"), press("b"), rules(other_rules(p="p text")), label("a", ""))
        self.assertEqual(text_told(told[4]), "Dog")

    def test_of_a_hidden_box(self):
        self.assertEqual(faults_of(page(TEXT), press("b"), label("a", "Dog")), [])
        self.assertEqual(faults_of(page(TEXT), press("b")), ["1 c", "7 c"])

    def test_leaves_the_state(self):
        self.assertEqual(run(page(TEXT), press("b"), label("a", "Dog"), press("b"))[3], [1, 0])

    def test_of_a_new_object(self):
        self.assertEqual(run(label("top", "T"), label("top", "")), [[0], [1, 84]])


class Refused(unittest.TestCase):
    BEFORE = (page(TEXT), label("a", "Dog"), press("b"), label("c", "C"))
    PROBES = (faults(), size(), label("a", ""), label("b", ""), label("c", ""), label("top", ""), press("b"), faults())

    def test_no_box(self):
        for ident in ("x", "", "A", "label", "a ", "a?", "\x80"):
            refused_only(self, -3, self.BEFORE, label(ident, "Good"), self.PROBES)

    def test_no_box_is_looked_at_first(self):
        refused_only(self, -3, self.BEFORE, label("x", " bad "), self.PROBES)
        refused_only(self, -3, self.BEFORE, label("x", ""), self.PROBES)

    def test_no_saying(self):
        for saying in (" ", " a", "a ", "a  b", "a,b", "a\n", '"a"', "abcdefghijklmnopqrstu", "abcdefghij klmnopqrst",
                       "\xe9", "a\xffb", "a-b", "a:b", "?", b"\0", "a" * 4000):
            with self.subTest(saying=saying):
                refused_only(self, -1, self.BEFORE, label("a", saying), self.PROBES)


if __name__ == "__main__":
    unittest.main()
