"""A page from its text."""

from pagestates.boxes import Box, KINDS, NOWHERE, Page
from pagestates.refusals import WrongText
from pagestates.signs import Pieces, QUOTE, is_small_word, lines_of

PAGE_AT_FIRST = "page top\n"
MOST_BOXES = 16
DEEPEST = 5
NO_IDS = ("label", "by", "hint", "hidden", "off", "on", "order", "press")
NUMBERS = ("1", "2", "3", "4", "5", "6", "7", "8", "9")
VERBS = ("show", "hide", "flip")
WITH_ACTS = ("link", "button", "check")
HOMES = {"row": "table", "cell": "row", "th": "row", "item": "list"}


def read_page(text):
    lines = lines_of(text)
    if len(lines) > MOST_BOXES:
        raise WrongText()
    boxes = [read_box(line) for line in lines]
    check_levels(boxes)
    page = Page(boxes)
    check_ids(page)
    check_homes(page)
    return page


def read_box(line):
    rest = line.lstrip(" ")
    blanks = len(line) - len(rest)
    if blanks % 2 != 0 or blanks > 2 * DEEPEST:
        raise WrongText()
    pieces = Pieces(rest)
    kind = pieces.take()
    if kind not in KINDS:
        raise WrongText()
    box = Box(blanks // 2, kind, take_id(pieces))
    take_names(pieces, box)
    take_marks(pieces, box)
    if pieces.take_word("press"):
        box.acts = take_acts(pieces, kind)
    pieces.must_end()
    return box


def take_names(pieces, box):
    if pieces.ahead().startswith(QUOTE):
        box.text = pieces.take_saying()
    if pieces.take_word("label"):
        box.label = pieces.take_saying()
    if pieces.take_word("by"):
        box.by = take_labelling(pieces)
    if pieces.take_word("hint"):
        box.hint = take_id(pieces)


def take_marks(pieces, box):
    box.hidden = pieces.take_word("hidden")
    box.off = pieces.take_word("off")
    box.on = pieces.take_word("on")
    if box.on and box.kind != "check":
        raise WrongText()
    # The number isn't kept: nothing that is answered leans on it.
    if pieces.take_word("order") and pieces.take() not in NUMBERS:
        raise WrongText()


def is_id(text):
    return is_small_word(text, 6) and text not in NO_IDS


def take_id(pieces):
    ident = pieces.take()
    if not is_id(ident):
        raise WrongText()
    return ident


def take_labelling(pieces):
    idents = []
    while is_id(pieces.ahead()):
        idents.append(pieces.take())
    if not 1 <= len(idents) <= 3 or len(set(idents)) != len(idents):
        raise WrongText()
    return idents


def take_acts(pieces, kind):
    acts = []
    while not pieces.ended():
        acts.append(read_act(pieces.take()))
    if not 1 <= len(acts) <= 3 or kind not in WITH_ACTS:
        raise WrongText()
    return acts


def read_act(piece):
    parts = piece.split(":")
    if len(parts) != 2 or parts[0] not in VERBS or not is_id(parts[1]):
        raise WrongText()
    return (parts[0], parts[1])


def check_levels(boxes):
    first = boxes[0]
    if first.kind != "page" or first.deep != 0 or first.hidden:
        raise WrongText()
    for before, box in zip(boxes, boxes[1:]):
        if box.kind == "page" or box.deep < 1 or box.deep > before.deep + 1:
            raise WrongText()


def check_ids(page):
    if len(page.places) != len(page.boxes):
        raise WrongText()
    for box in page.boxes:
        for ident in named_ids(box):
            if ident not in page.places:
                raise WrongText()


def named_ids(box):
    hints = [box.hint] if box.hint else []
    return box.by + hints + [act[1] for act in box.acts]


def check_homes(page):
    homes = [HOMES[kind] for kind in HOMES]
    for box, outer in zip(page.boxes, page.around):
        if outer == NOWHERE:
            continue
        home = page.boxes[outer].kind
        if (box.kind in HOMES or home in homes) and HOMES.get(box.kind) != home:
            raise WrongText()
