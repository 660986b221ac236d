"""The forms of ids, sayings and lines, and the walk through a line's words."""

from saidfaults.refusals import WrongText

NOT_IDS = ("label", "by", "hint", "hidden", "off", "on", "order", "press")
LONGEST_ID = 6
LONGEST_SAYING = 20


def is_small(word, longest):
    return len(word) <= longest and word.isalpha() and word.islower()


def is_ident(word):
    return is_small(word, LONGEST_ID) and word not in NOT_IDS


def is_saying(text):
    return len(text) <= LONGEST_SAYING and all([word.isalnum() for word in text.split(" ")])


def require(fits):
    if not fits:
        raise WrongText()


def lines_of(text):
    require(text.endswith("\n"))
    return text[:-1].split("\n")


class Words:
    """A line's words, taken one after the other.

    Two blanks side by side, or one at an end, make an empty word: no form takes it, and so the line is refused.
    """

    def __init__(self, line):
        self.words = line.split(" ")
        self.place = 0

    def at_end(self):
        return self.place >= len(self.words)

    def ahead(self):
        return "" if self.at_end() else self.words[self.place]

    def take(self):
        word = self.ahead()
        self.place += 1
        return word

    def skip(self, word):
        if self.ahead() != word:
            return False
        self.place += 1
        return True
