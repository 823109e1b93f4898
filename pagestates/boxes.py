"""Boxes and pages, and how the boxes stand in one another."""

KINDS = (
    "page", "part", "h1", "h2", "h3", "p", "link", "button", "field", "check",
    "list", "item", "table", "row", "cell", "th", "image", "live", "modal",
)
LEVELS = {"h1": 1, "h2": 2, "h3": 3}
NOWHERE = -1


class Box:
    """What a page tells of a box; an empty text or list is what the box hasn't."""

    def __init__(self, deep, kind, ident):
        self.deep = deep
        self.kind = kind
        self.ident = ident
        self.text = ""
        self.label = ""
        self.by = []
        self.hint = ""
        self.hidden = False
        self.off = False
        self.on = False
        self.acts = []


class Page:
    """Boxes by their numbers from 0; the first one stands nowhere."""

    def __init__(self, boxes):
        self.boxes = boxes
        self.around = boxes_around(boxes)
        self.own = own_boxes(self.around)
        self.places = places_of(boxes)
        self.live = innermost_live(boxes, self.around)


def boxes_around(boxes):
    around = []
    path = []
    for at, box in enumerate(boxes):
        path = path[:box.deep]
        around.append(path[-1] if path else NOWHERE)
        path.append(at)
    return around


def own_boxes(around):
    own = [[] for outer in around]
    for at, outer in enumerate(around):
        if outer != NOWHERE:
            own[outer].append(at)
    return own


def places_of(boxes):
    places = {}
    for at, box in enumerate(boxes):
        places[box.ident] = at
    return places


def innermost_live(boxes, around):
    """For each box the innermost live box that it is or is in, or nowhere."""
    live = []
    for at, box in enumerate(boxes):
        outer = around[at]
        if box.kind == "live":
            live.append(at)
        else:
            live.append(NOWHERE if outer == NOWHERE else live[outer])
    return live


def level_of(box):
    """A heading's level; 0 for all other boxes."""
    return LEVELS.get(box.kind, 0)


def does_something(box):
    return box.kind == "check" or len(box.acts) > 0
