import sys
import unittest

from saidfaults.pages import answers
from tests.helper import (
    EXAMPLE, FIRST_RULES, alike, at, clean, counts, faults, headings, heads, label, only, other_rules, page, press, row,
    rules, run, size,
)

# Forty calls: all thirteen, and every refusal.
LINE = [
    clean(), counts(), heads("top"), alike("top"),
    page(EXAMPLE), faults(), press("one"), press("z"), label("pic", "Dog"), label("pic", " bad"), at("z"), at("q"),
    only(2), only(0), size(), counts(), headings(), heads("c"), heads("q"), heads("t"), alike("one"), alike("q"),
    clean(), rules(other_rules(p="p text focus")), rules("no"), page("no"), press("q"), press("top"), label("q", ""),
    faults(), counts(), alike("x"), press("two"), faults(), headings(), rules(FIRST_RULES), size(), counts(),
    alike("z"), heads("c"),
]


class Fixed(list):
    """A list that fails when something changes it, be it for a while."""

    def fail(self, *given):
        raise AssertionError("the list handed in is changed")

    append = clear = extend = insert = pop = remove = reverse = sort = fail
    __setitem__ = __delitem__ = __iadd__ = __imul__ = fail


def stack_depth():
    depth = 0
    frame = sys._getframe()
    while frame is not None:
        depth += 1
        frame = frame.f_back
    return depth


def flat(calls):
    return [number for call in calls for number in call]


class Written(unittest.TestCase):
    """How calls are handed in, and how answers are given back, number by number."""

    def test_numbers_of_the_calls(self):
        top = [116, 111, 112]
        given = ([0, 9] + list(b"page top\n") + [1, 0] + [2, 3] + top + [3, 3] + top + [1, 65] + [4] + [5, 7]
                 + [6, 3] + top + [7] + [8] + [9] + [10, 3] + top + [11, 3] + top + [12])
        self.assertEqual(answers(given), [1, 1, 1, -1, 1, -5, 1, 0, 1, 0, 1, 0, 1, 0, 1, 1, 9, 0, 0, 0, 0, 0, 0, 0, 0, 0,
                                          1, 0, 1, -6, 1, 0, 3, 1, 0, 0])

    def test_texts_without_any_byte(self):
        self.assertEqual(answers([0, 0, 1, 0, 2, 0, 3, 0, 0, 6, 0, 10, 0, 11, 0]),
                         [1, -1, 1, -1, 1, -3, 1, -3, 1, -3, 1, -3, 1, -3])

    def test_counts_tells_its_nine_numbers_alone(self):
        self.assertEqual(answers(page("page top\n  image a\n") + [8, 7]),
                         [1, 2, 9, 1, 0, 0, 0, 0, 0, 0, 0, 0, 1, 0])

    def test_headings_heads_and_alike_tell_how_many(self):
        text = 'page top\n  h2 ab "A"\n  link c "A"\n  table t\n    row r\n      th de\n      cell f\n'
        self.assertEqual(answers(page(text) + [9] + heads("f") + alike("ab")),
                         [1, 7, 5, 1, 2, 2, 97, 98, 4, 1, 2, 100, 101, 3, 1, 1, 99])

    def test_faults_with_and_without_another_one(self):
        text = 'page top\n  link a "A"\n  link b "A" press hide:a\n  image c\n'
        self.assertEqual(answers(page(text) + [4]), [1, 4, 10, 2, 2, 1, 98, 1, 97, 1, 1, 99, 0])

    def test_label_is_told_with_its_length(self):
        self.assertEqual(answers(label("top", "Hi 5") + label("top", "")), [1, 0, 5, 4, 72, 105, 32, 53])

    def test_a_refused_call_is_read_to_its_end(self):
        self.assertEqual(answers(label("x", "Good") + label("top", "no  ") + only(99) + at("xyz") + heads("xyz")
                                 + heads("top") + alike("xyz") + size()),
                         [1, -3, 1, -1, 1, -5, 1, -3, 1, -3, 1, -6, 1, -3, 3, 1, 0, 0])

    def test_forty_calls(self):
        self.assertEqual(answers([12] * 40), [3, 1, 0, 0] * 40)
        self.assertEqual(len(LINE), 40)
        self.assertEqual({call[0] for call in LINE}, set(range(13)))
        self.assertEqual([one[0] for one in run(*LINE) if one[0] < 0],
                         [-6, -1, -3, -5, -3, -6, -3, -1, -1, -3, -5, -3])

    def test_calls_answer_the_same_whatever_asks_ahead(self):
        told = run(*LINE)
        changing = [k for k, call in enumerate(LINE) if call[0] < 4]
        self.assertEqual([told[k] for k in changing], run(*[LINE[k] for k in changing]))

    def test_long_texts(self):
        every = list(range(256)) * 15 + [10] * 160
        self.assertEqual(answers([0, 4000] + every + [1, 4000] + every + [3] + row("top") + [4000] + every
                                 + [6, 4000] + every), [1, -1, 1, -1, 1, -1, 1, -3])
        self.assertEqual(answers([10, 4000] + every + [11, 4000] + every + [2, 4000] + every + [12]),
                         [1, -3, 1, -3, 1, -3, 3, 1, 0, 0])

    def test_a_long_list(self):
        line = page(EXAMPLE) + [4] * 39
        told = answers(line)
        self.assertEqual(told[:2], [1, 11])
        self.assertEqual(told[2:], told[2:2 + told[2] + 1] * 39)


class Plain(unittest.TestCase):
    def test_what_is_handed_in_is_not_changed(self):
        given = flat(LINE)
        kept = list(given)
        answers(given)
        self.assertEqual(given, kept)

    def test_nor_for_a_while(self):
        given = flat(LINE)
        self.assertEqual(answers(Fixed(given)), answers(given))

    def test_long_lists_do_not_nest_calls(self):
        every = list(range(256)) * 15 + [32] * 160
        given = flat(LINE[:36]) + flat([[0, 4000] + every, [1, 4000] + every, [11, 4000] + every])
        expected = answers(given)
        limit = sys.getrecursionlimit()
        sys.setrecursionlimit(stack_depth() + 30)
        try:
            told = answers(given)
        finally:
            sys.setrecursionlimit(limit)
        self.assertEqual(told, expected)

    def test_twice_the_same(self):
        given = flat(LINE)
        first = answers(given)
        self.assertEqual(answers(given), first)
        self.assertEqual(answers(list(given)), first)

    def test_nothing_is_kept_from_one_time_to_the_next(self):
        asking = size() + faults() + label("top", "") + at("pic") + clean() + headings() + alike("top") + heads("c")
        before = answers(asking)
        answers(flat(LINE[:38]) + label("top", "Kept") + rules(other_rules(page="page page focus")))
        self.assertEqual(answers(asking), before)
        self.assertEqual(before, [3, 1, 0, 0, 1, 0, 1, 0, 1, -3, 1, 1, 1, 0, 1, 0, 1, -3])

    def test_gives_back_a_list_of_whole_numbers(self):
        told = answers(flat(LINE))
        self.assertIs(type(told), list)
        self.assertEqual({type(number) for number in told}, {int})

    def test_the_lists_given_back_are_apart(self):
        first = answers(size())
        first.append(7)
        self.assertEqual(answers(size()), [3, 1, 0, 0])

    def test_only_refusals_are_below_zero(self):
        for answer in run(*LINE):
            if min(answer) < 0:
                self.assertEqual(len(answer), 1)


if __name__ == "__main__":
    unittest.main()
