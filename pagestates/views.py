"""What the calls are made on, a page with its rules in a state; and what each call does and answers."""

from pagestates.boxes import NOWHERE, does_something
from pagestates.deeds import find_states, places_from
from pagestates.faults import faults_of
from pagestates.news import told_by_itself
from pagestates.pagetext import PAGE_AT_FIRST, read_page
from pagestates.refusals import CannotBePressed, DoesNothing, NoSuchBox, WrongKind
from pagestates.ruletext import RULES_AT_FIRST, read_rules
from pagestates.scenes import Scene
from pagestates.signs import text_of, told_text, told_texts
from pagestates.states import first_state, how_many_hidden, how_many_on
from pagestates.states import modal_of, pressable_boxes, pressed, visible_boxes

FAULT_KINDS = 9


class View:
    def __init__(self):
        self.page = read_page(PAGE_AT_FIRST)
        self.rules = read_rules(RULES_AT_FIRST)
        self.state = first_state(self.page)


def box_called(view, ident):
    if ident not in view.page.places:
        raise NoSuchBox()
    return view.page.places[ident]


def box_to_press(view, ident):
    at = box_called(view, ident)
    if not does_something(view.page.boxes[at]):
        raise DoesNothing()
    if at not in pressable_boxes(view.page, view.state):
        raise CannotBePressed()
    return at


def told_row(view, row):
    return told_texts([view.page.boxes[at].ident for at in row])


def told_news(view, news):
    told = [len(news)]
    for live, at, text in news:
        told.extend(told_text(view.page.boxes[live].ident) + told_text(view.page.boxes[at].ident) + told_text(text))
    return told


def take_page(view, text):
    view.page = read_page(text)
    view.state = first_state(view.page)
    return [len(view.page.boxes)]


def take_rules(view, text):
    view.rules = read_rules(text)
    return [len([kind for kind in view.rules if view.rules[kind].focus])]


def press(view, ident):
    at = box_to_press(view, ident)
    view.state = pressed(view.page, view.state, at)
    return [how_many_hidden(view.state), how_many_on(view.state)]


def reset(view):
    view.state = first_state(view.page)
    return [how_many_hidden(view.state)]


def tell_states(view):
    found = find_states(view.page)
    return [len(found.states), max([len(row) for row in found.rows])]


def tell_way(view):
    found = find_states(view.page)
    if view.state not in found.places:
        return [0]
    return [1] + told_row(view, found.rows[found.places[view.state]])


def tell_faulty(view, kind):
    if kind < 0 or kind > FAULT_KINDS:
        raise WrongKind()
    found = find_states(view.page)
    for state, row in zip(found.states, found.rows):
        faults = faults_of(Scene(view.page, view.rules, state))
        such = [fault for fault in faults if kind in (0, fault[0])]
        if such:
            first = such[0]
            told = told_text(first[1]) + told_text(first[2])
            return [1] + told_row(view, row) + [len(such), first[0]] + told
    return [0]


def tell_reach(view, ident):
    at = box_called(view, ident)
    found = find_states(view.page)
    for state, row in zip(found.states, found.rows):
        if visible_boxes(view.page, state)[at]:
            return [1] + told_row(view, row)
    return [0]


def visible_by_state(view, found):
    return [visible_boxes(view.page, state) for state in found.states]


def tell_trap(view):
    found = find_states(view.page)
    visible = visible_by_state(view, found)
    for place, row in enumerate(found.rows):
        modal = modal_of(view.page, visible[place])
        if modal != NOWHERE and all([visible[further][modal] for further in places_from(found, place)]):
            return [1] + told_row(view, row) + told_text(view.page.boxes[modal].ident)
    return [0]


def tell_dead(view):
    pressable = {}
    for steps in find_states(view.page).steps:
        for at, place in steps:
            pressable[at] = True
    boxes = view.page.boxes
    return told_texts([box.ident for at, box in enumerate(boxes) if does_something(box) and at not in pressable])


def tell_unseen(view):
    seen = {}
    for visible in visible_by_state(view, find_states(view.page)):
        for at, shown in enumerate(visible):
            if shown:
                seen[at] = True
    return told_texts([box.ident for at, box in enumerate(view.page.boxes) if at not in seen])


def tell_told(view, ident):
    at = box_to_press(view, ident)
    old = Scene(view.page, view.rules, view.state)
    new = Scene(view.page, view.rules, pressed(view.page, view.state, at))
    return told_news(view, told_by_itself(old, new))


def tell_speaks(view):
    found = find_states(view.page)
    scenes = [Scene(view.page, view.rules, state) for state in found.states]
    for place, row in enumerate(found.rows):
        for at, further in found.steps[place]:
            news = told_by_itself(scenes[place], scenes[further])
            if news:
                return [1] + told_row(view, row) + told_text(view.page.boxes[at].ident) + told_news(view, news)
    return [0]


def tell_size(view):
    faults = faults_of(Scene(view.page, view.rules, view.state))
    return [len(view.page.boxes), how_many_hidden(view.state), how_many_on(view.state), len(faults)]


WITH_TEXT = {0: take_page, 1: take_rules, 2: press, 7: tell_reach, 11: tell_told}
WITH_NUMBER = {6: tell_faulty}
ALONE = {
    3: reset, 4: tell_states, 5: tell_way, 8: tell_trap, 9: tell_dead, 10: tell_unseen, 12: tell_speaks, 13: tell_size,
}


def call_length(calls, at):
    """How many numbers the call that begins there has."""
    if calls[at] in WITH_TEXT:
        return 2 + calls[at + 1]
    return 2 if calls[at] in WITH_NUMBER else 1


def answer_call(view, call):
    number = call[0]
    if number in WITH_TEXT:
        return WITH_TEXT[number](view, text_of(call[2:]))
    if number in WITH_NUMBER:
        return WITH_NUMBER[number](view, call[1])
    return ALONE[number](view)
