"""What a page is in one state under its rules, worked out box by box."""

from pagestates.boxes import NOWHERE
from pagestates.names import inner_names, name_and_source
from pagestates.states import visible_boxes
from pagestates.words import words_of


class Scene:
    """Lists with one thing for each box: its rule, whether it's on, visible, said by itself; its names.

    sources tells where each name comes from, texts what's said of each box (empty, if it isn't said by itself).
    """

    def __init__(self, page, rules, state):
        self.page = page
        self.rules = [rules[box.kind] for box in page.boxes]
        self.on = state[1]
        self.visible = visible_boxes(page, state)
        self.said = said_boxes(page, self.rules, self.visible)
        self.inner = inner_names(page, rules, state)
        named = [name_and_source(page, rules, state, self.inner, at) for at in range(len(page.boxes))]
        self.names = [name for name, source in named]
        self.sources = [source for name, source in named]
        self.texts = [words_of(self, at) if said else "" for at, said in enumerate(self.said)]

    def inner_name(self, ident):
        return self.inner[self.page.places[ident]]


def said_boxes(page, box_rules, visible):
    """A truth for each box: is it said by itself."""
    swallowed = []
    for outer in page.around:
        swallowed.append(outer != NOWHERE and (swallowed[outer] or box_rules[outer].whole))
    return [seen and not gone for seen, gone in zip(visible, swallowed)]
