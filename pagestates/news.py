"""What's told by itself from one state to another."""

from pagestates.boxes import NOWHERE


def told_by_itself(old, new):
    """Of two scenes of one page: the live box, the box, and what's said of it, in the page's order."""
    told = []
    for at, live in enumerate(old.page.live):
        heard = live != NOWHERE and old.visible[live] and new.visible[live]
        if heard and new.texts[at] not in ("", old.texts[at]):
            told.append((live, at, new.texts[at]))
    return told
