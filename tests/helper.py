"""Writes calls as the list that is handed in, and reads the list that is given back."""

from saidfaults.pages import answers

EXAMPLE = (
    'page top\n'
    '  h2 title "Sign in"\n'
    '  button one "Go" label "Send" press show:x\n'
    '  button two "Send" press hide:x\n'
    '  image pic\n'
    '  p x hint y hidden\n'
    '  field y\n'
    '  table t\n'
    '    row r\n'
    '      cell c "5"\n'
    '  check z by x hint x\n'
)

FIRST_RULES = (
    "page page from by label\n"
    "part part from by label\n"
    "h1 heading whole from by label text kids\n"
    "h2 heading whole from by label text kids\n"
    "h3 heading whole from by label text kids\n"
    "p text from text\n"
    "link link focus whole from by label text kids hint\n"
    "button button focus whole from by label text kids hint\n"
    "field field focus from by label hint\n"
    "check check focus whole from by label text kids\n"
    "list list from by label\n"
    "item item from by label text\n"
    "table table from by label\n"
    "row row\n"
    "cell cell from text\n"
    "th head whole from label text kids\n"
    "image image whole from by label\n"
    "live live from by label\n"
    "modal modal from by label\n"
)


def raw(text):
    return list(text) if isinstance(text, (bytes, list)) else list(text.encode("latin-1"))


def row(text):
    return [len(raw(text))] + raw(text)


def page(text):
    return [0] + row(text)


def rules(text):
    return [1] + row(text)


def press(ident):
    return [2] + row(ident)


def label(ident, saying):
    return [3] + row(ident) + row(saying)


def faults():
    return [4]


def only(k):
    return [5, k]


def at(ident):
    return [6] + row(ident)


def clean():
    return [7]


def counts():
    return [8]


def headings():
    return [9]


def heads(ident):
    return [10] + row(ident)


def alike(ident):
    return [11] + row(ident)


def size():
    return [12]


def boxes(*lines):
    """A page's text: the box top, and these in it."""
    return "page top\n" + "".join("  " + line + "\n" for line in lines)


def other_rules(**lines):
    """The rules at first, with another line for each kind that is named."""
    out = []
    for line in FIRST_RULES.splitlines():
        out.append(lines.get(line.split()[0], line) + "\n")
    return "".join(out)


def run(*calls):
    """The answers, one list for each call."""
    told = answers([number for call in calls for number in call])
    out = []
    while told:
        count = told[0]
        out.append(told[1:1 + count])
        assert len(out[-1]) == count and count > 0, told
        told = told[1 + count:]
    assert len(out) == len(calls), (len(out), len(calls))
    return out


def last(*calls):
    """The last answer; none of the calls ahead of it may be refused, lest a slip in a test go unseen."""
    told = run(*calls)
    assert all(answer[0] >= 0 for answer in told[:-1]), told
    return told[-1]


def read_text(numbers):
    return bytes(numbers[1:1 + numbers[0]]).decode("ascii"), numbers[1 + numbers[0]:]


def read_faults(numbers):
    """Faults as a list of texts such as '3 title' and '2 two one'."""
    left = numbers[1:]
    out = []
    while left:
        ident, rest = read_text(left[1:])
        other, rest = read_text(rest)
        out.append(" ".join([str(left[0]), ident] + ([other] if other else [])))
        left = rest
    assert len(out) == numbers[0], numbers
    return out


def read_texts(numbers):
    left = numbers[1:]
    out = []
    while left:
        text, left = read_text(left)
        out.append(text)
    assert len(out) == numbers[0], numbers
    return out


def read_headings(numbers):
    """Headings as a list of texts such as '2 title'."""
    left = numbers[1:]
    out = []
    while left:
        text, rest = read_text(left[1:])
        out.append(str(left[0]) + " " + text)
        left = rest
    assert len(out) == numbers[0], numbers
    return out


def headings_of(*calls):
    return read_headings(last(*calls, headings()))


def heads_of(ident, *calls):
    return read_texts(last(*calls, heads(ident)))


def alike_to(ident, *calls):
    return read_texts(last(*calls, alike(ident)))


def faults_of(*calls):
    return read_faults(last(*calls, faults()))


def kinds_at(ident, *calls):
    told = last(*calls, at(ident))
    assert told[0] == len(told) - 1, told
    return told[1:]


def text_told(numbers):
    text, rest = read_text(numbers)
    assert rest == [], numbers
    return text


def refused_only(test, number, before, refused, probes):
    """The call is refused by this number, and all is as it would be if it had not come."""
    told = run(*before, refused, *probes)
    place = len(before)
    test.assertTrue(all(answer[0] >= 0 for answer in told[:place]), told)
    test.assertEqual(told[place], [number])
    test.assertEqual(told[:place] + told[place + 1:], run(*before, *probes))
