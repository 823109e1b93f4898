"""The states that rows of deeds lead to, in the order found, and the row to each."""

from pagestates.refusals import TooManyStates
from pagestates.states import first_state, pressable_boxes, pressed

MOST_STATES = 64


class Found:
    """states[k] is reached by rows[k], a list of boxes; places tells k by the state.

    steps[k] tells the boxes that can be pressed in states[k], each with the place of the state it leads to.
    """

    def __init__(self, first):
        self.states = [first]
        self.rows = [[]]
        self.places = {first: 0}
        self.steps = []

    def add(self, state, row):
        """Its place; the row is that to it, if it wasn't found before."""
        if state in self.places:
            return self.places[state]
        if len(self.states) == MOST_STATES:
            raise TooManyStates()
        self.places[state] = len(self.states)
        self.states.append(state)
        self.rows.append(row)
        return self.places[state]


def find_states(page):
    found = Found(first_state(page))
    at = 0
    while at < len(found.states):
        state = found.states[at]
        row = found.rows[at]
        steps = []
        for box in pressable_boxes(page, state):
            steps.append((box, found.add(pressed(page, state, box), row + [box])))
        found.steps.append(steps)
        at += 1
    return found


def places_from(found, place):
    """The places of the states to which rows of deeds lead from there, its own first."""
    places = [place]
    at = 0
    while at < len(places):
        for box, further in found.steps[places[at]]:
            if further not in places:
                places.append(further)
        at += 1
    return places
