import unittest

from tests.helper import (
    EXAMPLE, alike, at, boxes, clean, counts, faults, headings, heads, heads_of, label, last, other_rules, page, press,
    refused_only, rules, run, size,
)


def table(*lines):
    """A page with one table, t, in which these stand."""
    return page(boxes("table t", *["  " + line for line in lines]))


GRID = table("row ra", "  th aa", "  th ab", "  th ac", "row rb", "  th ba", "  cell bb", "  cell bc", "row rc",
             "  th ca", "  cell cb", "  cell cc")


class Heads(unittest.TestCase):
    def told(self, expected, ident, *calls):
        self.assertEqual(heads_of(ident, *calls), expected)

    def test_none(self):
        self.told([], "c", table("row r", "  cell c"))
        self.assertEqual(last(table("row r", "  cell c"), heads("c")), [0])

    def test_of_cells(self):
        self.told(["ab", "ba"], "bb", GRID)
        self.told(["ac", "ba"], "bc", GRID)
        self.told(["ab", "ca"], "cb", GRID)
        self.told(["ac", "ca"], "cc", GRID)

    def test_of_a_th_with_itself(self):
        self.told(["h"], "h", table("row r", "  th h"))
        self.told(["aa", "ab", "ac"], "aa", GRID)
        self.told(["aa", "ab", "ac"], "ac", GRID)
        self.told(["aa", "ba"], "ba", GRID)
        self.told(["aa", "ba", "ca"], "ca", GRID)

    def test_before_and_behind_it_in_its_row(self):
        self.told(["a", "c", "e"], "b", table("row r", "  th a", "  cell b", "  th c", "  cell d", "  th e"))
        self.told(["b"], "a", table("row r", "  cell a", "  th b"))

    def test_in_its_column_in_rows_before_it_alone(self):
        text = table("row r", "  th a", "row s", "  cell b", "row u", "  th c")
        self.told(["a"], "b", text)
        self.told(["a", "c"], "c", text)
        self.told(["a"], "a", text)
        self.told([], "b", table("row s", "  cell b", "row u", "  th c"))

    def test_every_row_before_it(self):
        self.told(["a", "b", "d"], "e", table(
            "row r", "  th a", "row s", "  th b", "row u", "  cell c", "row v", "  th d", "row w", "  cell e"))

    def test_other_columns_are_none(self):
        self.told([], "c", table("row r", "  cell a", "  th b", "row s", "  cell c"))
        self.told([], "d", table("row r", "  th a", "  cell b", "row s", "  cell c", "  cell d"))

    def test_rows_of_different_lengths(self):
        text = table("row r", "  th a", "row s", "row u", "  cell b", "  cell c", "  cell d", "row v", "  cell e",
                     "  th f", "row w", "  cell g", "  cell h", "  cell i")
        self.told(["a"], "b", text)
        self.told([], "c", text)
        self.told([], "d", text)
        self.told(["a", "f"], "e", text)
        self.told(["a"], "g", text)
        self.told(["f"], "h", text)
        self.told([], "i", text)

    def test_hidden_boxes_count_in_the_column(self):
        text = table("row r", "  cell a hidden", "  th b", "row s", "  cell c", "  cell d")
        self.told([], "c", text)
        self.told(["b"], "d", text)
        self.told(["a"], "d", table("row r", "  th a", "  th b hidden", "row s", "  cell c hidden", "row u", "  cell d"))

    def test_another_tables_rows(self):
        text = page(boxes("table t", "  row r", "    th a", "  row s", "    cell b", "part p", "table u", "  row v",
                          "    cell c", "  row w", "    th d", "  row x", "    cell e"))
        self.told(["a"], "b", text)
        self.told([], "c", text)
        self.told(["d"], "e", text)

    def test_table_in_a_cell(self):
        text = table("row r", "  th a", "    table u", "      row v", "      row w", "  th b", "row s", "  cell c",
                     "    table x", "      row y", "  cell d", "row z", "  cell e", "  cell f")
        self.told(["a", "b"], "a", text)
        self.told(["a"], "c", text)
        self.told(["b"], "d", text)
        self.told(["a"], "e", text)
        self.told(["b"], "f", text)

    def test_what_stands_in_cells_is_no_column(self):
        self.told(["a", "b"], "d", table(
            "row r", "  cell q", "    p x", "  th a", "row s", "  cell v", "    p w", "  cell d", "    p y", "  th b"))

    def test_hidden_heads(self):
        self.told(["b"], "c", table("row r", "  th a hidden", "  th b", "  cell c"))
        self.told(["b"], "c", table("row r", "  th a hidden", "row s", "  th b", "row u", "  cell c"))
        self.told(["b"], "a", table("row r", "  th a hidden", "  th b"))

    def test_heads_in_hidden_rows(self):
        self.told(["b"], "c", table("row r hidden", "  th a", "row s", "  th b", "row u", "  cell c"))
        self.told([], "c", table("row r hidden", "  th a", "  cell c"))
        self.told([], "a", table("row r hidden", "  th a"))

    def test_heads_in_hidden_tables(self):
        self.told([], "c", page(boxes("table t hidden", "  row r", "    th a", "    cell c")))
        self.told([], "c", page(boxes("part p hidden", "  table t", "    row r", "      th a", "      cell c")))

    def test_of_hidden_cells(self):
        self.told(["a", "b"], "c", table("row r", "  th a", "row s", "  cell c hidden", "  th b"))
        self.told(["a"], "c", table("row r", "  th a", "row s hidden", "  cell c", "  th b"))

    def test_heads_need_not_be_said_by_themselves_nor_have_names(self):
        text = table("row r", "  th a", '  th b "B" off', "  cell c")
        for other in ("table table whole", "table table focus", "table table"):
            self.told(["a", "b"], "c", rules(other_rules(table=other, th="th cell from hint")), text)

    def test_in_the_order_of_the_page(self):
        self.told(["z", "y", "x", "w"], "c", table(
            "row r", "  cell q", "  th z", "row s", "  cell v", "  th y", "row u", "  th x", "  cell c", "  th w"))

    def test_number_by_number(self):
        self.assertEqual(last(table("row r", "  th abcdef", "  cell c", "  th b"), heads("c")),
                         [2, 6, 97, 98, 99, 100, 101, 102, 1, 98])

    def test_after_press_and_another_page(self):
        text = page(boxes('button g "G" press flip:h flip:s', "table t", "  row r", "    th h", "  row s hidden",
                          "    th i", "  row u", "    cell c"))
        self.told(["h"], "c", text)
        self.told(["i"], "c", text, press("g"))
        self.told(["h"], "c", text, press("g"), press("g"))
        self.told([], "c", text, page(EXAMPLE))


class Refused(unittest.TestCase):
    BEFORE = (page(boxes('button b "B" press flip:h', "image pic", "table t", "  row r", "    th h", '    cell c "C"',
                         "      p p", "list l", "  item i")),
              rules(other_rules(p="p text focus")), press("b"), label("pic", "Dog"))
    PROBES = (faults(), size(), clean(), counts(), headings(), heads("c"), alike("b"), at("p"), label("pic", ""),
              press("b"), heads("c"), faults())

    def test_no_box(self):
        for ident in ("x", "", "C", "cc", "c ", " c", "cell", "th", "label", "c\n", "\xff", "?", b"\0", "c" * 4000):
            with self.subTest(ident=ident):
                refused_only(self, -3, self.BEFORE, heads(ident), self.PROBES)

    def test_not_a_cell_nor_a_th(self):
        for ident in ("top", "b", "pic", "t", "r", "p", "l", "i"):
            with self.subTest(ident=ident):
                refused_only(self, -6, self.BEFORE, heads(ident), self.PROBES)

    def test_every_other_kind(self):
        for kind in "part h1 h2 h3 p link button field check list table image live modal".split():
            self.assertEqual(run(page(boxes(kind + " a", kind + " b hidden")), heads("a"), heads("b")),
                             [[3], [-6], [-6]])

    def test_the_page_before_is_forgotten(self):
        self.assertEqual(run(page(EXAMPLE), heads("c"), page(boxes("p c")), heads("c"), page("page top\n"), heads("c")),
                         [[11], [0], [2], [-6], [1], [-3]])

    def test_new_object(self):
        self.assertEqual(run(heads("top"), heads("c")), [[-6], [-3]])

    def test_asking_changes_nothing(self):
        self.assertEqual(run(*self.BEFORE, heads("c"), heads("h"), *self.PROBES)[6:],
                         run(*self.BEFORE, *self.PROBES)[4:])


if __name__ == "__main__":
    unittest.main()
