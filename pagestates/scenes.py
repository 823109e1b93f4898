"""What a page is in one state under its rules, worked out box by box."""

from pagestates.boxes import NOWHERE
from pagestates.names import box_names, inner_names
from pagestates.states import visible_boxes


class Scene:
    """Lists with one thing for each box: its rule, whether it's visible or said by itself, its names."""

    def __init__(self, page, rules, state):
        self.page = page
        self.rules = [rules[box.kind] for box in page.boxes]
        self.visible = visible_boxes(page, state)
        self.said = said_boxes(page, self.rules, self.visible)
        self.inner = inner_names(page, rules, state)
        self.names = box_names(page, rules, state, self.inner)


def said_boxes(page, box_rules, visible):
    """A truth for each box: is it said by itself."""
    swallowed = []
    for outer in page.around:
        swallowed.append(outer != NOWHERE and (swallowed[outer] or box_rules[outer].whole))
    return [seen and not gone for seen, gone in zip(visible, swallowed)]
