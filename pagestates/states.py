"""States of a page. A state is two tuples with a truth for each box: is it hidden, is it on."""

from pagestates.boxes import NOWHERE, does_something


def first_state(page):
    hidden = [box.hidden for box in page.boxes]
    on = [box.on for box in page.boxes]
    return (tuple(hidden), tuple(on))


def how_many_hidden(state):
    return state[0].count(True)


def how_many_on(state):
    return state[1].count(True)


def visible_boxes(page, state):
    """A truth for each box."""
    visible = []
    for outer, hidden in zip(page.around, state[0]):
        shown_around = outer == NOWHERE or visible[outer]
        visible.append(shown_around and not hidden)
    return visible


def modal_of(page, visible):
    modal = NOWHERE
    for at, box in enumerate(page.boxes):
        if box.kind == "modal" and visible[at]:
            modal = at
    return modal


def is_in(page, at, outer):
    around = page.around[at]
    while around != NOWHERE and around != outer:
        around = page.around[around]
    return around == outer


def pressable_boxes(page, state):
    visible = visible_boxes(page, state)
    modal = modal_of(page, visible)
    pressable = []
    for at, box in enumerate(page.boxes):
        free = modal == NOWHERE or is_in(page, at, modal)
        if does_something(box) and not box.off and visible[at] and free:
            pressable.append(at)
    return pressable


def pressed(page, state, at):
    """The state after the box is pressed; whether it can be is not asked here."""
    hidden = list(state[0])
    on = list(state[1])
    box = page.boxes[at]
    if box.kind == "check":
        on[at] = not on[at]
    for verb, ident in box.acts:
        place = page.places[ident]
        hidden[place] = verb == "hide" or (verb == "flip" and not hidden[place])
    return (tuple(hidden), tuple(on))
