import unittest

from tests.helper import at, boxes, faults, label, last, other_rules, page, press, refused_only, rules, run, size


class Pressed(unittest.TestCase):
    def test_a_check_is_on_and_not_on(self):
        told = run(page(boxes("check a", "check b on")), press("a"), press("b"), press("b"), press("a"), press("b"))
        self.assertEqual(told[1:], [[0, 2], [0, 1], [0, 2], [0, 1], [0, 0]])

    def test_acts(self):
        text = boxes("button s press show:x", "button h press hide:x", "button f press flip:x", "p x hidden")
        told = run(page(text), press("s"), press("s"), press("h"), press("h"), press("f"), press("f"), press("s"))
        self.assertEqual([one[0] for one in told[1:]], [0, 0, 1, 1, 0, 1, 0])

    def test_acts_are_done_one_after_the_other(self):
        self.assertEqual(last(page(boxes("link a press show:b hide:b", "p b")), press("a")), [1, 0])
        self.assertEqual(last(page(boxes("link a press hide:b show:b", "p b")), press("a")), [0, 0])
        self.assertEqual(last(page(boxes("link a press flip:b flip:b", "p b")), press("a")), [0, 0])
        self.assertEqual(last(page(boxes("link a press flip:b flip:b flip:b", "p b")), press("a")), [1, 0])
        self.assertEqual(last(page(boxes("link a press hide:b flip:b hide:c", "p b", "p c")), press("a")), [1, 0])

    def test_a_check_with_acts_does_both(self):
        text = boxes("check a press hide:b flip:c", "p b", "p c hidden", "check d hidden on")
        self.assertEqual(run(page(text), press("a"), press("a"))[1:], [[2, 2], [3, 1]])

    def test_hidden_counts_boxes_that_are_hidden_themselves(self):
        text = boxes("button a press hide:b", "part b", "  p c", "  p d hidden")
        self.assertEqual(last(page(text), press("a")), [2, 0])

    def test_checks_that_are_not_visible_count_too(self):
        self.assertEqual(last(page(boxes("button a press hide:b", "check b on")), press("a")), [1, 1])

    def test_a_box_may_hide_itself_or_the_page(self):
        told = run(page(boxes("button a press hide:a", "link b press hide:top")), press("a"), press("a"), press("b"),
                   press("b"), size())
        self.assertEqual(told, [[3], [1, 0], [-6], [2, 0], [-6], [3, 0, 0]])

    def test_faults_are_those_of_the_state(self):
        text = boxes("button a press flip:b", "part b hidden", "  image c")
        told = run(page(text), faults(), press("a"), faults(), press("a"), faults())
        self.assertEqual([told[1], told[3], told[5]], [
            [1, 1, 1, 97, 0], [2, 1, 1, 97, 0, 1, 1, 99, 0], [1, 1, 1, 97, 0]])

    def test_rules_do_not_bear_on_pressing(self):
        self.assertEqual(last(rules(other_rules(check="check check")), page(boxes("check a")), press("a")), [0, 1])
        self.assertEqual(last(page(boxes("h1 a", "  link b press hide:a")), press("b")), [1, 0])


class Modals(unittest.TestCase):
    def test_only_what_is_in_it_can_be_pressed(self):
        text = boxes("check a", "modal m", "  part n", "    check b", "  check c", "check d")
        told = run(page(text), press("a"), press("b"), press("c"), press("d"))
        self.assertEqual(told[1:], [[-6], [0, 1], [0, 2], [-6]])

    def test_the_last_visible_one_counts(self):
        text = boxes("modal m", "  button a press show:n", "modal n hidden", "  button b press hide:n",
                     "part h hidden", "  modal o", "check c")
        told = run(page(text), press("b"), press("a"), press("a"), press("b"), press("a"), press("c"))
        self.assertEqual(told[1:], [[-6], [1, 0], [-6], [2, 0], [1, 0], [-6]])

    def test_one_without_boxes_lets_nothing_be_pressed(self):
        self.assertEqual(last(page(boxes("check a", "modal m")), press("a")), [-6])

    def test_one_at_any_place(self):
        for count in range(5):
            text = boxes("check a", "modal m", *["p " + "bcdef"[k] for k in range(count)])
            self.assertEqual(last(page(text), press("a")), [-6], count)

    def test_one_in_another(self):
        text = boxes("modal m", "  check a", "  modal n", "    check b", "  check c")
        told = run(page(text), press("a"), press("b"), press("c"))
        self.assertEqual(told[1:], [[-6], [0, 1], [-6]])

    def test_hidden_modal_is_none(self):
        self.assertEqual(last(page(boxes("check a", "modal m hidden")), press("a")), [1, 1])
        self.assertEqual(last(page(boxes("check a", "part p hidden", "  modal m")), press("a")), [1, 1])


class Refused(unittest.TestCase):
    BEFORE = (page(boxes(
        "check a on press hide:g", "button b", "link c off press hide:a", "part d hidden", "  check e",
        "p f hidden off", "image g", "field h", "check i off")), press("a"), label("h", "H"))
    PROBES = (faults(), size(), label("h", ""), at("g"), press("a"), press("a"), faults())

    def refused(self, number, *idents):
        for ident in idents:
            with self.subTest(ident=ident):
                refused_only(self, number, self.BEFORE, press(ident), self.PROBES)

    def test_no_box(self):
        self.refused(-3, "x", "", "A", "aa", "a ", "check", "label", "a\n", "\xff", "?", b"\0", "a" * 4000)

    def test_does_not_do_anything(self):
        self.refused(-5, "b", "h", "top", "g", "d")

    def test_does_nothing_is_looked_at_ahead_of_cannot(self):
        self.refused(-5, "f")
        self.assertEqual(last(page(boxes("button a", "modal m")), press("a")), [-5])
        self.assertEqual(last(page(boxes("button a hidden off")), press("a")), [-5])

    def test_off(self):
        self.refused(-6, "c", "i")

    def test_not_visible(self):
        self.refused(-6, "e")
        self.assertEqual(last(page(boxes("check a hidden")), press("a")), [-6])

    def test_off_around_it_is_no_matter(self):
        self.assertEqual(last(page(boxes("part p off", "  check a")), press("a")), [0, 1])


if __name__ == "__main__":
    unittest.main()
