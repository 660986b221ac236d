import unittest

from tests.helper import (
    EXAMPLE, at, faults, faults_of, kinds_at, label, last, only, other_rules, page, press, read_faults, refused_only,
    rules, run, size,
)


def boxes(*lines):
    return page("page top\n" + "".join("  " + line + "\n" for line in lines))


class Found(unittest.TestCase):
    def found(self, expected, *calls):
        self.assertEqual(faults_of(*calls), expected)


class Kind1(Found):
    """Said by itself without a name."""

    def test_kinds_that_need_a_name(self):
        self.found(["1 a"], boxes("image a"))
        self.found(["1 a"], boxes("h1 a"))
        self.found(["1 b"], boxes('h1 a "A"', "h2 b"))
        self.found(["1 c"], boxes('h1 a "A"', 'h2 b "B"', "h3 c"))
        self.found(["1 a"], boxes("modal a"))
        self.found(["1 a"], boxes("link a"))
        self.found(["1 a"], boxes("button a"))
        self.found(["1 a"], boxes("field a"))
        self.found(["1 a"], boxes("check a"))

    def test_kinds_that_need_none(self):
        self.found([], boxes("part a", "p b", "list c", "  item d", "table e", "  row f", "    th g", "live h"))

    def test_not_said_by_itself(self):
        self.found([], boxes("image a hidden", "part b hidden", "  modal c", 'h1 d "D"', "  image e"))

    def test_other_rules(self):
        self.found(["1 a"], rules(other_rules(p="p text focus from text")), boxes("p a"))
        self.found([], rules(other_rules(p="p text focus from text")), boxes('p a "A"'))
        self.found([], rules(other_rules(field="field field")), boxes("field a"))
        self.found(["1 a"], rules(other_rules(image="image image from text")), boxes('image a label "A"'))

    def test_after_press_and_label(self):
        text = boxes('button a "A" press flip:b', "image b")
        self.found([], text, press("a"))
        self.found(["1 b"], text, press("a"), press("a"))
        self.found([], text, label("b", "B"))


class Kind2(Found):
    """Sounds like a box before it, and does something else."""

    def test_other_acts(self):
        self.found(["2 b a"], boxes('link a "A" press show:a', 'link b "A" press hide:a'))
        self.found(["2 b a"], boxes('link a "A" press show:a', 'link b "A"'))
        self.found(["2 b a"], boxes('link a "A"', 'link b "A" press show:a'))
        self.found(["2 b a"], boxes('link a "A" press show:a', 'link b "A" press show:b'))
        self.found(["2 b a"], boxes('link a "A" press show:a show:a', 'link b "A" press show:a'))

    def test_acts_in_another_order(self):
        self.found(["2 b a"], boxes('link a "A" press show:a hide:b', 'link b "A" press hide:b show:a'))

    def test_the_same_acts(self):
        self.found([], boxes('link a "A" press show:a hide:b', 'link b "A" press show:a hide:b'))
        self.found([], boxes('field a label "A"', 'field b label "A"'))

    def test_the_first_such_box_is_the_other_one(self):
        self.found(["2 c a", "2 d a"], boxes(
            'link a "A"', 'link b "A"', 'link c "A" press hide:a', 'link d "A" press hide:b'))
        self.found(["2 b a", "2 c b"], boxes(
            'link a "A" press hide:a', 'link b "A"', 'link c "A" press hide:a'))

    def test_nothing_is_no_name_alike(self):
        self.found(["1 a", "1 b"], boxes("link a press hide:a", "link b"))

    def test_another_name(self):
        self.found([], boxes('link a "A"', 'link b "a" press hide:a', 'link c "A A" press hide:a'))

    def test_role_not_kind(self):
        text = boxes('link a "A"', 'button b "A" press hide:a')
        self.found([], text)
        self.found(["2 b a"], rules(other_rules(link="link button focus whole from text")), text)
        self.found([], rules(other_rules(link="link button whole from text")), text)

    def test_names_from_whatever_source(self):
        self.found(["2 c b"], boxes('p a "A"', 'link b by a', 'link c label "A" press hide:a'))

    def test_both_are_said_by_themselves(self):
        self.found([], boxes('link a "A" hidden', 'link b "A" press hide:a'))
        self.found([], boxes('link a "A"', 'link b "A" hidden press hide:a'))
        self.found(["9 b"], boxes('h1 a "A"', '  link b "A"', 'link c "A" press hide:a'))

    def test_off_is_no_matter(self):
        self.found(["2 b a"], boxes('link a "A" off', 'link b "A" press hide:a'))

    def test_after_press_and_label(self):
        text = boxes('link a "A" press hide:a', 'link b "A" press show:a')
        self.found(["2 b a"], text)
        self.found([], text, press("a"))
        self.found(["2 b a"], text, press("a"), press("b"))
        self.found([], text, label("b", "A B"))


class Kind3(Found):
    """A heading that jumps."""

    def test_first_heading(self):
        self.found([], boxes('h1 a "A"'))
        self.found(["3 a"], boxes('h2 a "A"'))
        self.found(["3 a"], boxes('h3 a "A"'))

    def test_jumps(self):
        self.found(["3 b"], boxes('h1 a "A"', 'h3 b "B"'))
        self.found([], boxes('h1 a "A"', 'h2 b "B"', 'h3 c "C"', 'h1 d "D"', 'h2 e "E"', 'h2 f "F"', 'h3 g "G"'))
        self.found(["3 d"], boxes('h1 a "A"', 'h2 b "B"', 'h1 c "C"', 'h3 d "D"'))
        self.found(["3 a"], boxes('h3 a "A"', 'h3 b "B"', 'h1 c "C"'))

    def test_only_headings_said_by_themselves(self):
        self.found(["3 c"], boxes('h1 a "A"', 'h2 b "B" hidden', 'h3 c "C"'))
        self.found(["3 c"], boxes('h1 a "A"', '  h2 b "B"', 'h3 c "C"'))
        self.found([], boxes('h1 a "A"', '  h3 b "B"', 'h2 c "C"'))
        self.found([], boxes('h1 a "A"', 'h3 b "B" hidden'))

    def test_on_any_depth(self):
        self.found(["3 c"], boxes('part a', '  h1 b "B"', 'part d', '  part e', '    h3 c "C"'))

    def test_after_press_and_rules(self):
        text = boxes('h1 a "A"', 'h2 b "B"', 'h3 c "C"', 'button d "D" press flip:b')
        self.found([], text)
        self.found(["3 c"], text, press("d"))
        inside = boxes('h1 a "A"', '  h2 b "B"', 'h3 c "C"')
        self.found([], rules(other_rules(h1="h1 heading from text")), inside)

    def test_whatever_role_headings_have(self):
        self.found(["3 a"], rules(other_rules(h2="h2 text from text")), boxes('h2 a "A"'))


class Kind4(Found):
    """The own text doesn't stand in the name."""

    def test_there(self):
        self.found(["4 a"], boxes('button a "Go" label "Send"'))
        self.found(["1 a", "4 a"], boxes('field a "Go"'))
        self.found(["4 a"], boxes('button a "Go" label "go"'))
        self.found(["4 a"], boxes('button a "Go on" label "Go"'))
        self.found(["4 a"], boxes('button a "Go on" label "Go right on"'))
        self.found(["4 b"], boxes('p a "Send"', 'button b "Go" by a'))

    def test_not_there(self):
        self.found([], boxes('button a "Go"'))
        self.found([], boxes('button a "Go" label "Go on"'))
        self.found([], boxes('button a "Go" label "Ergo Gone"'))
        self.found([], boxes('button a "on" label "Wonder"'))
        self.found([], boxes('button a label "Send"'))
        self.found([], boxes('p a "Now"', 'button b "Go Now" by b a'))

    def test_only_where_the_focus_goes(self):
        self.found([], boxes('h1 a "Go" label "Send"', 'part b "Go" label "Send"'))
        self.found([], boxes('button a "Go" label "Send" hidden'))
        self.found(["9 b"], boxes('h1 a "A"', '  button b "Go" label "Send"'))

    def test_after_label_and_rules(self):
        text = boxes('button a "Go"')
        self.found(["4 a"], text, label("a", "Send"))
        self.found([], text, label("a", "Send"), label("a", "Go 1"))
        self.found(["4 a"], rules(other_rules(button="button button focus from label text")), text, label("a", "Send"))
        self.found([], rules(other_rules(button="button button focus from text label")), text, label("a", "Send"))
        self.found(["4 a"], rules(other_rules(p="p text focus from label")), boxes('p a "A" label "B"'))


class Kind5(Found):
    """A cell without heads."""

    def test_none(self):
        self.found(["5 c"], boxes("table t", "  row r", "    cell c"))

    def test_head_in_its_row(self):
        self.found([], boxes("table t", "  row r", "    th h", "    cell c", "    cell d"))
        self.found([], boxes("table t", "  row r", "    cell c", "    th h"))

    def test_head_in_its_column_before(self):
        self.found(["5 e"], boxes("table t", "  row r", "    th h", "  row s", "    cell c", "    cell e"))
        self.found([], boxes(
            "table t", "  row r", "    th h", "    th i", "  row q", "  row s", "    cell c", "    cell e"))

    def test_head_below_is_none(self):
        self.found(["5 c"], boxes("table t", "  row s", "    cell c", "  row r", "    th h"))

    def test_head_of_another_table_is_none(self):
        self.found(["5 c"], boxes("table t", "  row r", "    th h", "table u", "  row s", "    cell c"))
        self.found(["5 d"], boxes(
            "table t", "  row r", "    th h", "  row s", "    cell c", "part p", "table u", "  row v", "    cell d"))

    def test_hidden_heads(self):
        self.found(["5 c"], boxes("table t", "  row r", "    th h hidden", "    cell c"))
        self.found(["5 c"], boxes("table t", "  row r hidden", "    th h", "  row s", "    cell c"))

    def test_hidden_boxes_count_in_the_column(self):
        self.found([], boxes(
            "table t", "  row r", "    th h hidden", "    th i", "  row s", "    cell b hidden", "    cell c"))
        self.found(["5 c"], boxes(
            "table t", "  row r", "    th h hidden", "    th i", "  row s", "    cell c"))

    def test_cell_not_said_by_itself(self):
        self.found([], boxes("table t", "  row r", "    cell c hidden"))
        self.found([], boxes("table t", "  row r hidden", "    cell c"))
        self.found([], rules(other_rules(table="table table whole")), boxes("table t", "  row r", "    cell c"))

    def test_th_has_no_such_fault(self):
        self.found([], boxes("table t", "  row r", "    th h"))

    def test_what_stands_in_a_cell_is_no_matter(self):
        self.found([], boxes("table t", "  row r", "    th h", "      p a", "    cell c", "      p b"))

    def test_after_press(self):
        text = boxes('button b "B" press flip:h', "table t", "  row r", "    th h", "  row s", "    cell c")
        self.found([], text)
        self.found(["5 c"], text, press("b"))
        self.found([], text, press("b"), press("b"))


class Kind6(Found):
    """A hint that says nothing."""

    def test_there(self):
        self.found(["6 a b"], boxes("p a hint b", "p b"))
        self.found(["6 a a"], boxes("p a hint a"))
        self.found(["6 a b"], boxes('field a label "A" hint b', 'p b label "B"'))
        self.found(["6 a top"], boxes("p a hint top"))

    def test_not_there(self):
        self.found([], boxes("p a hint b", 'p b "B"'))
        self.found([], boxes("p a hint b", 'p b "B" hidden'))
        self.found([], boxes("p a hint b hidden", "p b"))
        self.found([], boxes('p a "A" hint a'))
        self.found([], page('page top label "T"\n  p a by top hint top\n'))

    def test_the_inner_name_counts(self):
        # The hint's name by another box, or by a hint of its own, is no inner name.
        self.found(["6 a b"], boxes("p a hint b", "part b by c", 'p c "C"'))
        self.found(["6 a b"], boxes("p a hint b", "link b hint c", 'p c "C"'))

    def test_not_said_by_itself(self):
        self.found([], boxes('h1 a "A"', "  p b hint c", "p c"))

    def test_after_label_and_rules(self):
        text = boxes("p a hint b", "part b")
        self.found(["6 a b"], text)
        self.found([], text, label("b", "B"))
        self.found(["6 a b"], text, label("b", "B"), rules(other_rules(part="part part")))

    def test_after_press(self):
        text = boxes('button g "G" press flip:c', "p a hint b", "h1 b", '  p c "C"')
        self.found([], text)
        self.found(["6 a b", "1 b"], text, press("g"))


class Kind7(Found):
    """Labelled by boxes that say nothing."""

    def test_there(self):
        self.found(["7 a"], boxes("p a by b", "p b"))
        self.found(["7 a"], boxes("p a by b c top", "p b", "p c"))
        self.found(["7 a"], boxes("p a by a"))
        self.found(["7 a"], boxes('link a "A" by b', "p b"))
        self.found(["7 a"], boxes('link a "A" by b', "part b by c", 'p c "C"'))

    def test_not_there(self):
        self.found([], boxes("p a by b c", "p b", 'p c "C" hidden'))
        self.found([], boxes("p a by b hidden", "p b"))
        self.found([], boxes('link a "A" by a'))
        self.found([], boxes('h1 a "A"', "  p b by c", "p c"))

    def test_after_label_press_and_rules(self):
        text = boxes('button g "G" press flip:c', "p a by b", "h1 b", '  p c "C"')
        self.found([], text)
        self.found(["7 a", "1 b"], text, press("g"))
        self.found([], text, press("g"), label("b", "B"))
        self.found(["7 a", "1 b"], text, rules(other_rules(h1="h1 heading whole from label")))


class Kind8(Found):
    """It does something, and the focus doesn't come there."""

    def test_there(self):
        self.found(["8 a"], rules(other_rules(check="check check")), boxes("check a"))
        self.found(["8 a"], rules(other_rules(link="link link")), boxes("link a press show:a"))
        self.found(["8 a"], rules(other_rules(button="button button")), boxes("button a press show:a"))

    def test_not_there(self):
        self.found([], boxes('check a "A"'))
        none = rules(other_rules(check="check check", link="link link"))
        self.found([], none, boxes("link a"))
        self.found([], none, boxes("check a off", "link b off press show:a"))
        self.found([], none, boxes("check a hidden", "part b hidden", "  link c press show:a"))

    def test_said_by_itself_or_not(self):
        self.found(["8 b"], rules(other_rules(check="check check")), boxes('h1 a "A"', "  check b"))

    def test_modal_is_no_matter(self):
        self.found(["8 a"], rules(other_rules(check="check check")), boxes("check a", 'modal m label "M"'))

    def test_after_press_and_rules(self):
        text = boxes('button g "G" press flip:c', 'check c "C"')
        none = rules(other_rules(check="check check"))
        self.found([], text)
        self.found(["8 c"], text, none)
        self.found([], text, none, press("g"))
        self.found([], text, none, rules(other_rules()))


class Kind9(Found):
    """The focus comes there, and it isn't said by itself."""

    def test_there(self):
        self.found(["9 b"], boxes('h1 a "A"', "  link b"))
        self.found(["9 c"], boxes('h1 a "A"', "  part b", "    field c"))
        self.found(["9 b"], boxes('button a "A"', "  check b off"))

    def test_not_there(self):
        self.found([], boxes('link a "A"', '  p b "B"', 'part c', '  link d "D"'))
        self.found([], boxes('h1 a "A"', "  link b hidden", "  part c hidden", "    link d"))
        self.found([], boxes('link a "A"'))

    def test_after_press_and_rules(self):
        text = boxes('button g "G" press flip:b', 'h1 a "A"', '  link b "B"')
        self.found(["9 b"], text)
        self.found([], text, press("g"))
        self.found([], text, rules(other_rules(h1="h1 heading from text")))
        self.found([], text, rules(other_rules(link="link link whole")))
        self.found(["9 g", "9 b"], text, rules(other_rules(page="page page whole")))


class Names(Found):
    """What a name is, as the faults 1, 2 and 4 tell it."""

    def name_is(self, name, calls, ident):
        """A box of the same role as the first, labelled with the name, is taken for it."""
        self.assertIn("2 same " + ident, faults_of(*calls, label("same", name)), name)
        self.assertNotIn("2 same " + ident, faults_of(*calls, label("same", name + "x")))

    def calls(self, *lines):
        return (rules(other_rules(check="check button focus whole from label")),
                boxes(*lines, "check same press flip:same"))

    def test_by_goes_ahead_of_label_text_kids_hint(self):
        lines = ['p w "By"', 'p h "Hint"']
        kid = '  p k "Kid"'
        self.name_is("By", self.calls('button b "Text" label "Label" by w hint h', kid, *lines), "b")
        self.name_is("Label", self.calls('button b "Text" label "Label" hint h', kid, *lines), "b")
        self.name_is("Text", self.calls('button b "Text" hint h', kid, *lines), "b")
        self.name_is("Kid", self.calls("button b hint h", kid, *lines), "b")
        self.name_is("Hint", self.calls("button b hint h", *lines), "b")
        self.name_is("Label", self.calls('button b label "Label" by e', "p e"), "b")

    def test_rules_tell_the_order_of_sources(self):
        lines = ('button b "Text" label "Label" by w hint h', '  p k "Kid"', 'p w "By"', 'p h "Hint"',
                 "check same press flip:same")
        for source, name in (("by", "By"), ("label", "Label"), ("text", "Text"), ("kids", "Kid"), ("hint", "Hint")):
            others = " ".join(other for other in ("hint", "text", "by", "kids", "label") if other != source)
            calls = (rules(other_rules(check="check button focus from label",
                                       button="button button focus from " + source + " " + others)), boxes(*lines))
            self.name_is(name, calls, "b")

    def test_several_are_put_together(self):
        self.name_is("A C", self.calls("button b by x y z", 'p x "A"', "p y", 'p z "C" hidden'), "b")
        self.name_is("C A", self.calls("button b by z x", 'p x "A"', "p y", 'p z "C" hidden'), "b")
        self.name_is("A C", self.calls("button b", '  p x "A"', "  p y", '  p z "C"', '  p w "D" hidden'), "b")

    def test_kids_of_kids(self):
        self.name_is("A B C", self.calls(
            "button b", '  h1 x "A"', "  h2 y", '    p z "B"', '    p w "No" hidden', '  p v "C"'), "b")
        # A part's inner name has no kids among its sources.
        self.name_is("A", self.calls("button b", '  p x "A"', "  part y", '    p z "B"'), "b")

    def test_kids_are_asked_whether_they_are_hidden_themselves(self):
        self.name_is("B", self.calls("button b by h", "part u hidden", "  h1 h", '    p p "B"'), "b")
        self.name_is("B", self.calls("button b by h", "h1 h hidden", '  p p "B"'), "b")
        self.name_is("A", self.calls("button b by h", "h1 h", '  p p "B" hidden', '  p q "A"'), "b")

    def test_box_may_be_labelled_by_itself(self):
        self.name_is("Own Other", self.calls('button b label "Own" by b o', 'p o "Other"'), "b")

    def test_inner_names_have_no_by_nor_hint(self):
        self.name_is("In", self.calls('button b by c', 'button c "In" by d hint d', 'p d "Else"'), "b")
        self.name_is("Text", self.calls('button b "Text" by c', "link c hint d", 'p d "Else"'), "b")

    def test_after_press(self):
        calls = self.calls("button b by h", "h1 h", '  p p "B"', '  p q "A"', 'link l "L" press flip:p')
        self.name_is("B A", calls, "b")
        self.name_is("A", calls + (press("l"),), "b")
        self.name_is("B A", calls + (press("l"), press("l")), "b")

    def test_labels_from_now_on_are_names_too(self):
        calls = self.calls("button b by h", 'h1 h "H"')
        self.name_is("H", calls, "b")
        self.name_is("New", calls + (label("h", "New"),), "b")


class SaidByItself(Found):
    def test_any_box_around_counts(self):
        text = boxes('part a', '  h1 b "B"', '    part c', '      image d')
        self.found([], text)
        self.found(["1 d"], text, rules(other_rules(h1="h1 heading from text")))
        self.found([], text, rules(other_rules(part="part part whole")))

    def test_its_own_rule_is_no_matter(self):
        self.found(["1 a"], boxes("image a"))


class Order(Found):
    def test_box_by_box_and_kind_by_kind(self):
        self.found(["1 b", "3 b", "4 b", "6 b e", "7 b", "1 c", "9 d"],
                   rules(other_rules(h2="h2 heading focus whole from by")),
                   boxes('h2 b "B" by e hint e', "image c", 'h1 f "F"', "  link d", "p e"))


class Only(Found):
    def test_those_of_a_kind(self):
        every = faults_of(page(EXAMPLE))
        for k in range(1, 10):
            told = read_faults(last(page(EXAMPLE), only(k)))
            self.assertEqual(told, [fault for fault in every if fault[0] == str(k)], k)
        self.assertEqual(read_faults(last(page(EXAMPLE), only(1))), ["1 pic", "1 y", "1 z"])
        self.assertEqual(last(page(EXAMPLE), only(8)), [0])
        self.assertEqual(read_faults(last(page(EXAMPLE), only(6))), ["6 z x"])

    def test_eight_and_nine(self):
        calls = (rules(other_rules(check="check check")), boxes('h1 a "A"', "  link b", "check c"))
        self.assertEqual(read_faults(last(*calls, only(8))), ["8 c"])
        self.assertEqual(read_faults(last(*calls, only(9))), ["9 b"])

    def test_no_kind(self):
        for k in (0, 10, -1, -5, 11, 10 ** 18, -10 ** 18):
            refused_only(self, -5, (page(EXAMPLE), label("pic", "Dog")), only(k), (faults(), label("pic", "")))


class At(Found):
    def test_kinds_of_its_faults(self):
        told = {ident: kinds_at(ident, page(EXAMPLE)) for ident in (
            "top", "title", "one", "two", "pic", "x", "y", "t", "r", "c", "z")}
        self.assertEqual(told, {"top": [], "title": [3], "one": [4], "two": [2], "pic": [1], "x": [], "y": [1], "t": [],
                                "r": [], "c": [5], "z": [1, 6, 7]})

    def test_the_other_one_has_not_the_fault(self):
        self.assertEqual(kinds_at("a", boxes('link a "A"', 'link b "A" press hide:a')), [])

    def test_after_press_label_and_rules(self):
        text = boxes('button a "A" press flip:b', "image b")
        self.assertEqual(run(text, at("b"), press("a"), at("b"), press("a"), at("b"), label("b", "B"), at("b")),
                         [[3], [1, 1], [1, 0], [0], [0, 0], [1, 1], [0], [0]])
        self.assertEqual(last(text, rules(other_rules(button="button button")), at("a")), [1, 8])
        self.assertEqual(last(text, rules(other_rules(page="page page whole")), at("a")), [1, 9])

    def test_no_box(self):
        for ident in ("q", "", "Z", "zz", "z ", " z", "label", "\xff", "?", "z\n", "z" * 4000):
            refused_only(self, -3, (page(EXAMPLE), label("pic", "Dog")), at(ident), (faults(), label("pic", "")))


class Size(Found):
    def test_new_object(self):
        self.assertEqual(last(size()), [1, 0, 0])

    def test_counts(self):
        self.assertEqual(last(page(EXAMPLE), size()), [11, 4, 9])
        text = boxes('link a "A"', 'link b "B" hidden', 'h1 c "C"', '  link d "D"', "p e",
                     'check f "F" off press flip:a', 'button g "G" press flip:b')
        self.assertEqual(run(text, size(), press("g"), size(), rules(other_rules(h1="h1 heading from text")), size(),
                             rules(other_rules(p="p text focus")), size())[1::2],
                         [[8, 3, 1], [8, 4, 1], [8, 5, 0], [8, 5, 2]])

    def test_after_label(self):
        self.assertEqual(run(boxes("image a"), size(), label("a", "A"), size())[1::2], [[2, 0, 1], [2, 0, 0]])


class Asking(Found):
    def test_changes_nothing(self):
        asking = (faults(), only(1), at("z"), size(), only(0), at("q"))
        told = run(page(EXAMPLE), *asking, *asking, press("one"), *asking)
        self.assertEqual(told[1:7], told[7:13])
        self.assertEqual(told[13], [0, 0])


if __name__ == "__main__":
    unittest.main()
