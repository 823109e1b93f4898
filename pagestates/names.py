"""Inner names and names of the boxes in a state."""


def put_together(names):
    return " ".join([name for name in names if name != ""])


def inner_names(page, rules, state):
    inner = ["" for box in page.boxes]
    # From the last box to the first, so that the names of a box's own boxes are there before its own.
    for at in range(len(page.boxes) - 1, -1, -1):
        for source in rules[page.boxes[at].kind].sources:
            if inner[at] == "":
                inner[at] = inner_gift(page, state, inner, at, source)
    return inner


def inner_gift(page, state, inner, at, source):
    box = page.boxes[at]
    if source == "label":
        return box.label
    if source == "text":
        return box.text
    if source == "kids":
        return put_together([inner[own] for own in page.own[at] if not state[0][own]])
    return ""


def gift(page, state, inner, at, source):
    box = page.boxes[at]
    if source == "by":
        return put_together([inner[page.places[ident]] for ident in box.by])
    if source == "hint":
        return inner[page.places[box.hint]] if box.hint else ""
    return inner_gift(page, state, inner, at, source)


def name_and_source(page, rules, state, inner, at):
    """The box's name and the source that it comes from; both are empty if no source gives something."""
    for source in rules[page.boxes[at].kind].sources:
        name = gift(page, state, inner, at, source)
        if name != "":
            return (name, source)
    return ("", "")
