"""The nine kinds of faults."""

from pagestates.boxes import NOWHERE, does_something, level_of


def said_with_focus(scene, at):
    return scene.said[at] and scene.rules[at].focus


def has_no_name(scene, at):
    box = scene.page.boxes[at]
    needs_name = scene.rules[at].focus or level_of(box) > 0 or box.kind in ("image", "modal")
    return scene.said[at] and scene.names[at] == "" and needs_name


def is_mistaken_for(scene, at, before):
    same_role = scene.rules[at].role == scene.rules[before].role
    same_name = scene.names[at] == scene.names[before]
    same_acts = scene.page.boxes[at].acts == scene.page.boxes[before].acts
    return said_with_focus(scene, before) and same_role and same_name and not same_acts


def namesake(scene, at):
    if scene.names[at] == "" or not said_with_focus(scene, at):
        return NOWHERE
    for before in range(at):
        if is_mistaken_for(scene, at, before):
            return before
    return NOWHERE


def has_namesake(scene, at):
    return namesake(scene, at) != NOWHERE


def skips_level(scene, at):
    boxes = scene.page.boxes
    if not scene.said[at]:
        return False
    level = 0
    for before in range(at):
        if scene.said[before] and level_of(boxes[before]) > 0:
            level = level_of(boxes[before])
    return level_of(boxes[at]) > level + 1


def hides_text(scene, at):
    return said_with_focus(scene, at) and scene.page.boxes[at].text not in scene.names[at]


def is_head(scene, at):
    return scene.page.boxes[at].kind == "th" and scene.visible[at]


def has_heads(scene, cell):
    page = scene.page
    row = page.around[cell]
    column = page.own[row].index(cell)
    rows = page.own[page.around[row]]
    above = [page.own[before] for before in rows if before < row]
    heads = page.own[row] + [cells[column] for cells in above if column < len(cells)]
    return any([is_head(scene, head) for head in heads])


def lacks_heads(scene, at):
    return scene.page.boxes[at].kind == "cell" and scene.said[at] and not has_heads(scene, at)


def has_empty_hint(scene, at):
    hint = scene.page.boxes[at].hint
    return scene.said[at] and hint != "" and scene.inner_name(hint) == ""


def has_empty_labels(scene, at):
    by = scene.page.boxes[at].by
    return scene.said[at] and len(by) > 0 and all([scene.inner_name(ident) == "" for ident in by])


def lacks_focus(scene, at):
    box = scene.page.boxes[at]
    return scene.visible[at] and does_something(box) and not box.off and not scene.rules[at].focus


def is_swallowed(scene, at):
    return scene.visible[at] and scene.rules[at].focus and not scene.said[at]


CHECKS = (
    has_no_name, has_namesake, skips_level, hides_text, lacks_heads,
    has_empty_hint, has_empty_labels, lacks_focus, is_swallowed,
)


def other_id(scene, kind, at):
    boxes = scene.page.boxes
    if kind == 2:
        return boxes[namesake(scene, at)].ident
    return boxes[at].hint if kind == 6 else ""


def faults_of(scene):
    """Box by box, at one box in the order of kinds: the kind, the box's id, the other one's or an empty text."""
    faults = []
    for at, box in enumerate(scene.page.boxes):
        for kind, check in enumerate(CHECKS, start=1):
            if check(scene, at):
                faults.append((kind, box.ident, other_id(scene, kind, at)))
    return faults
