"""Rules, those at first, and a text of rules into rules; what is not such a text is refused."""

from saidfaults.boxes import KINDS
from saidfaults.forms import Words, is_small, lines_of, require

LONGEST_ROLE = 8
NOT_ROLES = ("focus", "whole", "from")
SOURCES = ("by", "label", "text", "kids", "hint")

RULES_AT_FIRST = (
    "page page from by label\n"
    "part part from by label\n"
    "h1 heading whole from by label text kids\n"
    "h2 heading whole from by label text kids\n"
    "h3 heading whole from by label text kids\n"
    "p text from text\n"
    "link link focus whole from by label text kids hint\n"
    "button button focus whole from by label text kids hint\n"
    "field field focus from by label hint\n"
    "check check focus whole from by label text kids\n"
    "list list from by label\n"
    "item item from by label text\n"
    "table table from by label\n"
    "row row\n"
    "cell cell from text\n"
    "th head whole from label text kids\n"
    "image image whole from by label\n"
    "live live from by label\n"
    "modal modal from by label\n"
)


class Rule:
    """What holds for all boxes of one kind."""

    def __init__(self, role, focus, whole, sources):
        self.role = role
        self.focus = focus
        self.whole = whole
        self.sources = sources


def read_rules(text):
    lines = lines_of(text)
    require(len(lines) == len(KINDS))
    rules = {}
    for kind, line in zip(KINDS, lines):
        rules[kind] = read_rule(kind, line)
    return rules


def read_rule(kind, line):
    words = Words(line)
    require(words.take() == kind)
    role = words.take()
    require(is_small(role, LONGEST_ROLE) and role not in NOT_ROLES)
    focus = words.skip("focus")
    whole = words.skip("whole")
    sources = take_sources(words) if words.skip("from") else []
    require(words.at_end())
    return Rule(role, focus, whole, sources)


def take_sources(words):
    sources = [take_source(words)]
    while not words.at_end():
        sources.append(take_source(words))
    require(len(set(sources)) == len(sources))
    return sources


def take_source(words):
    word = words.take()
    require(word in SOURCES)
    return word
