"""The states that rows of deeds lead to, in the order found, and the row to each."""

from pagestates.refusals import TooManyStates
from pagestates.states import first_state, pressable_boxes, pressed

MOST_STATES = 64


class Found:
    """states[k] is reached by rows[k], a list of boxes; places tells k by the state."""

    def __init__(self, first):
        self.states = [first]
        self.rows = [[]]
        self.places = {first: 0}

    def add(self, state, row):
        if state in self.places:
            return
        if len(self.states) == MOST_STATES:
            raise TooManyStates()
        self.places[state] = len(self.states)
        self.states.append(state)
        self.rows.append(row)


def find_states(page):
    found = Found(first_state(page))
    at = 0
    while at < len(found.states):
        state = found.states[at]
        row = found.rows[at]
        for box in pressable_boxes(page, state):
            found.add(pressed(page, state, box), row + [box])
        at += 1
    return found
