import unittest

from tests.helper import (
    FIRST_RULES, faults, faults_of, label, last, other_rules, page, press, refused_only, rules, run, size,
)

BEFORE = (
    page('page top\n  check c "A" press hide:p\n  p p "B"\n  button b "C" press flip:c\n'),
    rules(other_rules(p="p text focus from text", button="button button")),
    press("c"),
    label("b", "D"),
)
PROBES = (faults(), size(), label("b", ""), press("b"), faults(), press("b"), press("c"), faults())


class GoodRules(unittest.TestCase):
    def good(self, text, count):
        self.assertEqual(last(rules(text)), [count], text)

    def test_those_at_first(self):
        self.good(FIRST_RULES, 4)

    def test_how_many_take_the_focus(self):
        self.good(other_rules(p="p text focus from text"), 5)
        self.good(other_rules(link="link link"), 3)
        self.good("".join(line.split()[0] + " a focus\n" for line in FIRST_RULES.splitlines()), 19)
        self.good("".join(line.split()[0] + " a\n" for line in FIRST_RULES.splitlines()), 0)

    def test_forms_of_a_line(self):
        for rest in ("a", "abcdefgh", "a focus", "a whole", "a focus whole", "a from by", "a whole from hint",
                     "a focus whole from by label text kids hint", "by from by", "kids", "page"):
            self.good(other_rules(row="row " + rest), 5 if "focus" in rest else 4)

    def test_sources_in_whatever_order(self):
        self.good(other_rules(row="row a from hint kids text label by"), 4)
        self.assertEqual(
            faults_of(rules(other_rules(button="button button focus from text label")),
                      page('page top\n  button a "Go" label "Send"\n')), [])

    def test_rules_at_first_are_in_force_at_first(self):
        told = ('page top label "P"\n  part a\n    h1 b\n      button c "x"\n    field d "y"\n  check e by d\n'
                '  image f\n  list g\n    item h "i"\n  table t\n    row r\n      th u "A"\n      cell v\n'
                '  live w\n  modal m hint w\n')
        self.assertEqual(faults_of(page(told)), faults_of(rules(FIRST_RULES), page(told)))
        self.assertEqual(faults_of(page(told)), ["9 c", "1 d", "4 d", "1 e", "7 e", "1 f", "1 m", "6 m w"])


class OtherRules(unittest.TestCase):
    def test_are_in_force_from_now_on(self):
        text = 'page top\n  p a\n  button b "Go"\n  h1 c "A"\n    link d "B"\n'
        self.assertEqual(faults_of(page(text)), ["9 d"])
        self.assertEqual(faults_of(page(text), rules(other_rules(p="p text focus"))), ["1 a", "9 d"])
        self.assertEqual(faults_of(page(text), rules(other_rules(h1="h1 heading from text"))), [])
        self.assertEqual(
            faults_of(page(text), rules(other_rules(button="button button focus"))), ["1 b", "4 b", "9 d"])

    def test_the_last_are_in_force(self):
        self.assertEqual(
            faults_of(page("page top\n  p a\n"), rules(other_rules(p="p text focus")), rules(FIRST_RULES)), [])

    def test_leave_page_state_and_labels(self):
        text = "page top\n  check c press hide:p\n  p p\n"
        told = run(page(text), press("c"), label("p", "X"), rules(FIRST_RULES), label("p", ""), press("c"), size())
        self.assertEqual(told, [[3], [1, 1], [0], [4], [1, 88], [1, 0], [3, 1, 1]])


class NoRules(unittest.TestCase):
    def bad(self, *texts):
        for text in texts:
            with self.subTest(text=text):
                refused_only(self, -1, BEFORE, rules(text), PROBES)

    def test_lines(self):
        lines = FIRST_RULES.splitlines(True)
        self.bad("", "\n", FIRST_RULES[:-1], FIRST_RULES + "\n", "\n" + FIRST_RULES, FIRST_RULES + "p text\n",
                 "".join(lines[:18]), "".join(lines[1:]), "".join(lines + lines[:1]), FIRST_RULES.replace("\n", "\r\n"))

    def test_order_of_kinds(self):
        lines = FIRST_RULES.splitlines(True)
        self.bad("".join([lines[1], lines[0]] + lines[2:]), "".join(lines[:1] + lines[:1] + lines[2:]),
                 "".join(reversed(lines)))

    def test_roles(self):
        self.bad(*[other_rules(p="p " + role) for role in (
            "abcdefghi", "A", "aB", "h1", "", "focus", "whole", "from", "focus focus", "from text", "a:", "a b",
            "whole from text", "\xe9")])
        self.bad(other_rules(p="p"), other_rules(p="p "), other_rules(p=""))

    def test_words_behind_the_role(self):
        self.bad(*[other_rules(p="p text " + rest) for rest in (
            "whole focus", "focus focus", "whole whole", "from text focus", "from text whole", "text", "Focus",
            "focus whole text", "focuswhole", "x")])

    def test_sources(self):
        self.bad(*[other_rules(p="p text from" + rest) for rest in (
            "", " ", " name", " text text", " by label by", " text from by", " Text", " by,label", " own",
            " by label text kids hint by", " text ", "  text", " from", " kid")])

    def test_one_blank_between(self):
        self.bad(*[other_rules(p=line) for line in (
            "p  text", " p text", "p text ", "p text  focus", "p text focus  whole", "p text from by  label",
            "p\ttext", "ptext")])


if __name__ == "__main__":
    unittest.main()
