import unittest

from tests.helper import (
    EXAMPLE, at, boxes, faults, faults_of, kinds_at, label, last, other_rules, page, press, refused_only, rules, run,
    size, text_told,
)

BEFORE = (
    rules(other_rules(p="p text focus from text")),
    page('page top\n  check c "A" press hide:p\n  p p "B"\n  button b "C" press flip:c\n'),
    press("c"),
    label("b", "D"),
)
PROBES = (faults(), size(), label("b", ""), label("c", ""), press("b"), press("b"), press("c"), at("p"), faults())


class GoodPages(unittest.TestCase):
    def good(self, text, count):
        self.assertEqual(last(page(text)), [count], text)

    def test_new_object_has_one_box_called_top(self):
        self.assertEqual(run(size(), faults(), at("top"), at("x")), [[1, 0, 0], [0], [0], [-3]])

    def test_one_box(self):
        self.good("page top\n", 1)
        self.good("page a\n", 1)
        self.good("page abcdef\n", 1)

    def test_sixteen_boxes(self):
        self.good(boxes(*["p " + "abcdefghijklmno"[k] for k in range(15)]), 16)

    def test_five_deep(self):
        self.good("page a\n  part b\n    part c\n      part d\n        part e\n          part f\n", 6)

    def test_back_to_any_level_above(self):
        self.good("page a\n  part b\n    part c\n      part d\n  part e\n    part f\n", 6)

    def test_every_kind(self):
        self.good(
            boxes("part a", "h1 b", "h2 c", "h3 d", "p e", "link f", "button g", "field h", "check i", "list j",
                  "  item k", "image l", "live m", "modal n"), 15)
        self.good(boxes("table a", "  row b", "    cell c", "    th d"), 5)

    def test_every_part_of_a_line(self):
        self.good(boxes(
            'check abc "Own text" label "A label" by abc top x hint x hidden off on order 9 '
            'press show:x hide:top flip:abc', 'p x'), 3)

    def test_parts_by_themselves(self):
        for part in ('"A"', 'label "A"', "by top", "by top a", "by a top b", "hint top", "hint a", "hidden", "off",
                     "on", "order 1", "order 9", "press show:a", "press hide:a hide:a", "press flip:a show:b hide:top",
                     "hidden on", 'label "A" on', "off order 3", '"A" hint a'):
            self.good(boxes("check a " + part, "p b"), 3)

    def test_parts_of_any_kind(self):
        for kind in ("part", "p", "field", "image", "modal"):
            self.good(boxes(kind + ' a "A" label "B" by b hint b hidden off order 5', "p b"), 3)
        self.good('page top "A" label "B" by top hint top off order 5\n', 1)

    def test_acts_of_link_button_check(self):
        for kind in ("link", "button", "check"):
            self.good(boxes(kind + " a press show:a"), 2)

    def test_sayings(self):
        for saying in ("a", "Z", "0", "9 z A", "a b c d e f g h i j", "abcdefghijklmnopqrst", "x1 Y2"):
            self.good(boxes('p a "' + saying + '"'), 2)
            self.good(boxes('p a label "' + saying + '"'), 2)

    def test_words_that_may_be_ids(self):
        for ident in ("page", "row", "show", "hide", "flip", "from", "focus", "labels", "bye", "offs"):
            self.good(boxes("p " + ident), 2)

    def test_rows_cells_items_stand_where_they_may(self):
        self.good(boxes("list a", "  item b", "    list c", "      item d"), 5)
        self.good(boxes("table a", "  row b", "    cell c", "      table d", "  row e", "    th f", "      p g"), 8)


class OtherPage(unittest.TestCase):
    def test_is_the_page_from_now_on(self):
        self.assertEqual(run(page(EXAMPLE), page("page new\n  image pic\n"), size(), at("z"), at("pic"), at("top")),
                         [[11], [2], [2, 0, 1], [-3], [1, 1], [-3]])

    def test_is_in_its_state_at_first(self):
        text = boxes("check c press hide:p", "p p", "check d on", "p q hidden")
        told = run(page(text), press("c"), page(text), press("c"), press("c"))
        self.assertEqual(told, [[5], [2, 2], [5], [2, 2], [2, 1]])

    def test_has_its_own_labels(self):
        told = run(page(boxes("p a")), label("a", "X"), page(boxes("p a")), label("a", ""))
        self.assertEqual(text_told(told[3]), "")

    def test_leaves_the_rules(self):
        self.assertEqual(faults_of(rules(other_rules(p="p text focus")), page(boxes("p a"))), ["1 a"])

    def test_stands_in_the_last_box_before_that_is_less_deep(self):
        text = boxes("part a hidden", "  part b", "image c", "part d", "  part e", "    image f", "  image g")
        self.assertEqual(faults_of(page(text)), ["1 c", "1 f", "1 g"])
        told = boxes("part a", "  part b hidden", "    image c", "  image d", "image e")
        self.assertEqual(faults_of(page(told)), ["1 d", "1 e"])


class NoPages(unittest.TestCase):
    def bad(self, *texts):
        for text in texts:
            with self.subTest(text=text):
                refused_only(self, -1, BEFORE, page(text), PROBES)

    def test_no_lines(self):
        self.bad("", "\n", " ", " \n", "\n\n")

    def test_lines_are_ended(self):
        self.bad("page top", "page top\n  p a", "page top\n\n", "\npage top\n", "page top\n\n  p a\n", "page top\r\n",
                 "page top\n  p a\n\n", "page top\0\n")

    def test_more_than_sixteen(self):
        self.bad(boxes(*["p " + "abcdefghijklmnop"[k] for k in range(16)]))

    def test_six_deep(self):
        self.bad("page a\n  part b\n    part c\n      part d\n        part e\n          part f\n            part g\n")

    def test_first_box(self):
        self.bad("part top\n", "  page top\n", "page top hidden\n", "p a\npage top\n", " page top\n")

    def test_only_one_page(self):
        self.bad("page top\npage a\n", boxes("page a"), boxes("part a", "  page b"))

    def test_others_are_deep(self):
        self.bad("page top\np a\n", boxes("p b") + "p a\n", "page top\n    p a\n", boxes("part a", "    p b"),
                 boxes("part a", "  part b", "      p c"))

    def test_blanks_ahead(self):
        self.bad("page top\n p a\n", "page top\n   p a\n", "page top\n\tp a\n", "page top\n  part a\n   p b\n")

    def test_kinds(self):
        self.bad(boxes("h4 a"), boxes("a"), boxes("P a"), boxes("text a"), boxes(""), boxes("p"), boxes("pp a"),
                 "Page top\n", "page\n")

    def test_ids(self):
        self.bad(*[boxes("p " + ident) for ident in (
            "abcdefg", "A", "aB", "a1", "1", "a_b", "", "a:", '"a"', "\xe9", "a\xff", "label", "by", "hint", "hidden",
            "off", "on", "order", "press")])
        self.bad("page label\n", "page press\n")

    def test_two_ids_the_same(self):
        self.bad(boxes("p top"), boxes("p a", "p a"), boxes("p a", "p b", "image a"))

    def test_sayings(self):
        for saying in ("", " ", " a", "a ", "a  b", "a,b", "a\nb", "a\tb", 'a"b', "abcdefghijklmnopqrstu",
                       "abcdefghij klmnopqrst", "a-b", "\xe9", "a\0"):
            self.bad(boxes('p a "' + saying + '"'), boxes('p a label "' + saying + '"'))

    def test_quotes(self):
        self.bad(*[boxes("p a " + rest) for rest in (
            '"', '"A', 'A"', '"AB', 'AB"', 'label AB"', 'label "AB', "A",
            '"A""B"', '"A" "B"', '"A"label "B"', "label",
            "label A", 'label"A"', 'label "A',
            'label label "A"', "'A'", '"A"B"', 'label "A" "B"', '"A"hidden', '"A B')])

    def test_by(self):
        self.bad(*[boxes("p a by" + rest, "p b", "p c", "p d") for rest in (
            "", " ", " x", " b x", " b b", " a b a", " b c d top", " B", " hidden", " b,c", " b by c", " b  c")])

    def test_hint(self):
        self.bad(*[boxes("p a hint" + rest, "p b") for rest in (
            "", " ", " x", " a b", " hidden", ' "b"', " B", " a hint b", " label")])

    def test_on_is_of_a_check_alone(self):
        self.bad(*[boxes(kind + " a on") for kind in ("p", "link", "button", "field", "part", "image")])
        self.bad("page top on\n")

    def test_order(self):
        self.bad(*[boxes("p a order" + rest) for rest in (
            "", " ", " 0", " 10", " 01", " -1", " a", " 1 2", "1", " 12", " 123")])

    def test_acts(self):
        self.bad(*[boxes("button a press" + rest, "p b") for rest in (
            "", " ", " show", " show:", " :b", " show b", " show: b", " show :b", " Show:b", " press:b", " show:x",
            " show:b:a", " show:b show:b show:b show:b", " show:b,hide:b", " hide:b hidden", " show:B", " show:hint",
            " showb", " show:b x", " toggle:b", " show;b", " hide:a flip:x")])

    def test_acts_of_other_kinds(self):
        self.bad(*[boxes(kind + " a press show:a") for kind in (
            "part", "h1", "p", "field", "list", "table", "image", "live", "modal")])
        self.bad("page top press show:top\n")

    def test_order_of_parts(self):
        self.bad(*[boxes("check a " + rest) for rest in (
            'label "A" "B"', 'by a label "A"', "hint a by a", "hidden hint a", "off hidden", "on off", "order 1 on",
            "press show:a order 1", 'hidden "A"', "hidden hidden", "off off", "on on", "order 1 order 1",
            "press show:a press show:a", "off by a", "hidden press", "x")])

    def test_one_blank_between(self):
        self.bad(*[boxes(line) for line in (
            "check  a", "check a  hidden", "check a hidden ", "check a ", 'check a  "A"', "check a order  1",
            "check a press  show:a", "check a press show:a ", "check a by  a", "check a hidden  off", "check\ta")])

    def test_named_ids_are_boxes(self):
        self.bad(boxes("p a by b"), boxes("p a hint b"), boxes("link a press hide:b"),
                 boxes("p a by top b", "p c"), boxes("link a press hide:a show:c", "p b"))

    def test_where_rows_cells_items_stand(self):
        self.bad(boxes("row a"), boxes("cell a"), boxes("th a"), boxes("item a"),
                 boxes("part a", "  row b"), boxes("table a", "  cell b"), boxes("table a", "  th b"),
                 boxes("list a", "  row b"), boxes("table a", "  item b"), boxes("part a", "  item b"),
                 boxes("table a", "  row b", "    item c"), boxes("table a", "  row b", "    row c"),
                 boxes("table a", "  row b", "    cell c", "      cell d"),
                 boxes("table a", "  row b", "    cell c", "      row d"),
                 boxes("list a", "  item b", "    item c"))

    def test_nothing_else_stands_there(self):
        self.bad(boxes("table a", "  p b"), boxes("table a", "  row b", "    p c"), boxes("list a", "  p b"),
                 boxes("table a", "  row b", "  p c"), boxes("list a", "  item b", "  list c"),
                 boxes("table a", "  table b"), boxes("table a", "  row b", "    cell c", "    table d"))

    def test_strange_bytes(self):
        for byte in (0, 9, 11, 13, 31, 33, 35, 47, 58, 63, 64, 91, 95, 96, 123, 127, 128, 160, 181, 223, 255):
            self.bad(bytes(b"page t") + bytes([byte]) + b"\n", b'page top "a' + bytes([byte]) + b'"\n')

    def test_a_long_text(self):
        self.bad("a" * 4000, "\n" * 4000, " " * 4000, '"' * 4000, "page top\n" + "  p a\n" * 665)


class KindsThere(unittest.TestCase):
    def test_hidden_and_off_are_kept(self):
        self.assertEqual(kinds_at("a", page(boxes("image a"))), [1])
        self.assertEqual(kinds_at("a", page(boxes("image a hidden"))), [])


if __name__ == "__main__":
    unittest.main()
