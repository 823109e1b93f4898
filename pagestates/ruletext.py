"""The rules from their text, and the rules at first."""

from pagestates.boxes import KINDS
from pagestates.refusals import WrongText
from pagestates.signs import Pieces, is_small_word, lines_of

RULES_AT_FIRST = (
    "page page from by label\n"
    "part part from by label\n"
    "h1 heading whole from by label text kids\n"
    "h2 heading whole from by label text kids\n"
    "h3 heading whole from by label text kids\n"
    "p text from text\n"
    "link link focus whole from by label text kids hint\n"
    "button button focus whole from by label text kids hint\n"
    "field field focus from by label hint\n"
    "check check focus whole from by label text kids\n"
    "list list from by label\n"
    "item item from by label text\n"
    "table table from by label\n"
    "row row\n"
    "cell cell from text\n"
    "th head whole from label text kids\n"
    "image image whole from by label\n"
    "live live from by label\n"
    "modal modal from by label\n"
)
NO_ROLES = ("focus", "whole", "from")
SOURCES = ("by", "label", "text", "kids", "hint")


class Rule:
    def __init__(self, role, focus, whole, sources):
        self.role = role
        self.focus = focus
        self.whole = whole
        self.sources = sources


def read_rules(text):
    """A dict from each kind to its rule."""
    lines = lines_of(text)
    if len(lines) != len(KINDS):
        raise WrongText()
    rules = {}
    for kind, line in zip(KINDS, lines):
        rules[kind] = read_rule(kind, line)
    return rules


def read_rule(kind, line):
    pieces = Pieces(line)
    if not pieces.take_word(kind):
        raise WrongText()
    role = pieces.take()
    if not is_small_word(role, 8) or role in NO_ROLES:
        raise WrongText()
    focus = pieces.take_word("focus")
    whole = pieces.take_word("whole")
    sources = take_sources(pieces) if pieces.take_word("from") else []
    pieces.must_end()
    return Rule(role, focus, whole, sources)


def take_sources(pieces):
    sources = []
    while not pieces.ended():
        source = pieces.take()
        if source not in SOURCES or source in sources:
            raise WrongText()
        sources.append(source)
    if len(sources) == 0:
        raise WrongText()
    return sources
