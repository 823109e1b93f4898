"""What the tests share: calls in the form in which they are handed in, and answers taken apart again."""

from pagestates.pages import answers

RULES_AT_FIRST = [
    "page page from by label",
    "part part from by label",
    "h1 heading whole from by label text kids",
    "h2 heading whole from by label text kids",
    "h3 heading whole from by label text kids",
    "p text from text",
    "link link focus whole from by label text kids hint",
    "button button focus whole from by label text kids hint",
    "field field focus from by label hint",
    "check check focus whole from by label text kids",
    "list list from by label",
    "item item from by label text",
    "table table from by label",
    "row row",
    "cell cell from text",
    "th head whole from label text kids",
    "image image whole from by label",
    "live live from by label",
    "modal modal from by label",
]
STATES = [4]
RESET = [3]
WAY = [5]
TRAP = [8]
DEAD = [9]
UNSEEN = [10]
SPEAKS = [12]
SIZE = [13]


def with_bytes(number, text):
    numbers = list(text.encode("latin-1"))
    return [number, len(numbers)] + numbers


def ended(lines):
    return "".join(line + "\n" for line in lines)


def page(*lines):
    return with_bytes(0, ended(lines))


def page_text(text):
    return with_bytes(0, text)


def rules(*changed):
    """The rules at first, with these lines in the place of those of the same kinds."""
    by_kind = {line.split()[0]: line for line in RULES_AT_FIRST}
    by_kind.update({line.split()[0]: line for line in changed})
    return with_bytes(1, ended(by_kind.values()))


def rules_text(text):
    return with_bytes(1, text)


def press(ident):
    return with_bytes(2, ident)


def faulty(kind):
    return [6, kind]


def reach(ident):
    return with_bytes(7, ident)


def told(ident):
    return with_bytes(11, ident)


def split_answers(numbers):
    split = []
    while numbers:
        split.append(numbers[1:1 + numbers[0]])
        numbers = numbers[1 + numbers[0]:]
    return split


def said(*calls):
    """The answer to each call, a list of numbers."""
    return split_answers(answers([number for call in calls for number in call]))


def last(*calls):
    """The answer to the last call; the pages and rules before it must have been taken."""
    given = said(*calls)
    if [-1] in given[:-1]:
        raise AssertionError("a text before the last call is refused")
    return given[-1]


def text(string):
    return [len(string)] + [ord(sign) for sign in string]


def row(*idents):
    return [len(idents)] + [number for ident in idents for number in text(ident)]


def found_trap(deeds, modal):
    return [1] + row(*deeds) + text(modal)


def news(*boxes):
    """What's told by itself: for each box three texts, the live box's id, its own, and what's said."""
    return [len(boxes)] + [number for box in boxes for string in box for number in text(string)]


def found_news(deeds, ident, *boxes):
    """What speaks answers when something is told by itself."""
    return [1] + row(*deeds) + text(ident) + news(*boxes)


def found_fault(deeds, many, kind, ident, other=""):
    """What faulty answers when there is such a fault."""
    return [1] + row(*deeds) + [many, kind] + text(ident) + text(other)
