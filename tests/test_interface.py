import unittest

from saidfaults.pages import answers
from tests.helper import (
    EXAMPLE, FIRST_RULES, at, faults, label, only, other_rules, page, press, row, rules, run, size,
)

LINE = [
    page(EXAMPLE), faults(), press("one"), press("z"), label("pic", "Dog"), label("pic", " bad"), at("z"), at("q"),
    only(2), only(0), size(), rules(other_rules(p="p text focus")), rules("no"), page("no"), press("q"), press("top"),
    faults(), press("two"), faults(), rules(FIRST_RULES), size(),
]


def flat(calls):
    return [number for call in calls for number in call]


class Written(unittest.TestCase):
    """How calls are handed in, and how answers are given back, number by number."""

    def test_numbers_of_the_calls(self):
        top = [116, 111, 112]
        given = ([0, 9] + list(b"page top\n") + [1, 0] + [2, 3] + top + [3, 3] + top + [1, 65] + [4] + [5, 7]
                 + [6, 3] + top + [12])
        self.assertEqual(answers(given), [1, 1, 1, -1, 1, -5, 1, 0, 1, 0, 1, 0, 1, 0, 3, 1, 0, 0])

    def test_texts_without_any_byte(self):
        self.assertEqual(answers([0, 0, 1, 0, 2, 0, 3, 0, 0, 6, 0]), [1, -1, 1, -1, 1, -3, 1, -3, 1, -3])

    def test_faults_with_and_without_another_one(self):
        text = 'page top\n  link a "A"\n  link b "A" press hide:a\n  image c\n'
        self.assertEqual(answers(page(text) + [4]), [1, 4, 10, 2, 2, 1, 98, 1, 97, 1, 1, 99, 0])

    def test_label_is_told_with_its_length(self):
        self.assertEqual(answers(label("top", "Hi 5") + label("top", "")), [1, 0, 5, 4, 72, 105, 32, 53])

    def test_a_refused_call_is_read_to_its_end(self):
        self.assertEqual(answers(label("x", "Good") + label("top", "no  ") + only(99) + at("xyz") + size()),
                         [1, -3, 1, -1, 1, -5, 1, -3, 3, 1, 0, 0])

    def test_forty_calls(self):
        self.assertEqual(answers([12] * 40), [3, 1, 0, 0] * 40)

    def test_long_texts(self):
        every = list(range(256)) * 15 + [10] * 160
        self.assertEqual(answers([0, 4000] + every + [1, 4000] + every + [3] + row("top") + [4000] + every
                                 + [6, 4000] + every), [1, -1, 1, -1, 1, -1, 1, -3])

    def test_a_long_list(self):
        line = page(EXAMPLE) + [4] * 39
        told = answers(line)
        self.assertEqual(told[:2], [1, 11])
        self.assertEqual(told[2:], told[2:2 + told[2] + 1] * 39)


class Plain(unittest.TestCase):
    def test_what_is_handed_in_is_not_changed(self):
        given = flat(LINE)
        kept = list(given)
        answers(given)
        self.assertEqual(given, kept)

    def test_twice_the_same(self):
        given = flat(LINE)
        first = answers(given)
        self.assertEqual(answers(given), first)
        self.assertEqual(answers(list(given)), first)

    def test_nothing_is_kept_from_one_time_to_the_next(self):
        before = answers(size() + faults() + label("top", "") + at("pic"))
        answers(flat(LINE) + label("top", "Kept") + rules(other_rules(page="page page focus")))
        self.assertEqual(answers(size() + faults() + label("top", "") + at("pic")), before)
        self.assertEqual(before, [3, 1, 0, 0, 1, 0, 1, 0, 1, -3])

    def test_gives_back_a_list_of_whole_numbers(self):
        told = answers(flat(LINE))
        self.assertIs(type(told), list)
        self.assertEqual({type(number) for number in told}, {int})

    def test_the_lists_given_back_are_apart(self):
        first = answers(size())
        first.append(7)
        self.assertEqual(answers(size()), [3, 1, 0, 0])

    def test_only_refusals_are_below_zero(self):
        for answer in run(*LINE):
            if min(answer) < 0:
                self.assertEqual(len(answer), 1)


if __name__ == "__main__":
    unittest.main()
