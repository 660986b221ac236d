import unittest

from tests.helper import (
    EXAMPLE, alike, alike_to, at, clean, counts, faults, faults_of, headings, headings_of, heads, heads_of, kinds_at,
    label, last, only, page, read_faults, run, size, text_told,
)

FAULTS = ["3 title", "4 one", "2 two one", "1 pic", "1 y", "5 c", "1 z", "6 z x", "7 z"]


class Example(unittest.TestCase):
    """The document's own example."""

    def test_page(self):
        self.assertEqual(run(page(EXAMPLE)), [[11]])

    def test_faults(self):
        self.assertEqual(faults_of(page(EXAMPLE)), FAULTS)

    def test_at_tells_three_kinds(self):
        self.assertEqual(last(page(EXAMPLE), at("z")), [3, 1, 6, 7])
        self.assertEqual(kinds_at("z", page(EXAMPLE)), [1, 6, 7])

    def test_only(self):
        self.assertEqual(read_faults(last(page(EXAMPLE), only(2))), ["2 two one"])

    def test_counts_and_clean(self):
        self.assertEqual(last(page(EXAMPLE), counts()), [3, 1, 1, 1, 1, 1, 1, 0, 0])
        self.assertEqual(last(page(EXAMPLE), clean()), [0])

    def test_headings(self):
        self.assertEqual(headings_of(page(EXAMPLE)), ["2 title"])

    def test_heads(self):
        self.assertEqual(heads_of("c", page(EXAMPLE)), [])

    def test_alike(self):
        self.assertEqual(alike_to("one", page(EXAMPLE)), ["one", "two"])

    def test_label_and_size(self):
        told = run(page(EXAMPLE), label("pic", "Dog"), size())
        self.assertEqual(text_told(told[1]), "")
        self.assertEqual(told[2], [11, 4, 8])

    def test_whole_line_number_by_number(self):
        told = run(page(EXAMPLE), faults(), counts(), at("z"), only(2), clean(), headings(), heads("c"), alike("one"),
                   label("pic", "Dog"), size())
        self.assertEqual(told[0], [11])
        self.assertEqual(told[1][:9], [9, 3, 5, 116, 105, 116, 108, 101, 0])
        self.assertEqual(told[2:], [
            [3, 1, 1, 1, 1, 1, 1, 0, 0],
            [3, 1, 6, 7],
            [1, 2, 3, 116, 119, 111, 3, 111, 110, 101],
            [0],
            [1, 2, 5, 116, 105, 116, 108, 101],
            [0],
            [2, 3, 111, 110, 101, 3, 116, 119, 111],
            [0],
            [11, 4, 8],
        ])


if __name__ == "__main__":
    unittest.main()
