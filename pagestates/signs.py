"""Texts: from bytes and back, into lines, and lines into pieces."""

from pagestates.refusals import WrongText

SIGNS = "abcdefghijklmnopqrstuvwxyzABCDEFGHIJKLMNOPQRSTUVWXYZ0123456789 \":\n"
STRANGE = "?"
QUOTE = "\""


def text_of(numbers):
    known = {}
    for sign in SIGNS:
        known[ord(sign)] = sign
    # No page, no rules and no id holds another sign, so one sign may stand for all others.
    return "".join([known.get(number, STRANGE) for number in numbers])


def told_text(text):
    return [len(text)] + [ord(sign) for sign in text]


def told_texts(texts):
    told = [len(texts)]
    for text in texts:
        told.extend(told_text(text))
    return told


def lines_of(text):
    if not text.endswith("\n"):
        raise WrongText()
    return text[:-1].split("\n")


def first_piece(rest):
    if not rest.startswith(QUOTE):
        return rest.partition(" ")[0]
    end = rest.find(QUOTE, 1)
    if end < 0:
        raise WrongText()
    return rest[:end + 1]


def pieces_of(line):
    """The pieces between single blanks; a blank too many leaves an empty piece, which nothing takes."""
    pieces = [first_piece(line)]
    rest = line[len(pieces[0]):]
    while rest != "":
        if not rest.startswith(" "):
            raise WrongText()
        piece = first_piece(rest[1:])
        pieces.append(piece)
        rest = rest[1 + len(piece):]
    return pieces


def is_small_word(text, most):
    return len(text) <= most and text.isalpha() and text.islower()


def is_saying(text):
    return len(text) <= 20 and all([word.isalnum() for word in text.split(" ")])


class Pieces:
    """The pieces of one line, taken one after the other."""

    def __init__(self, line):
        self.pieces = pieces_of(line)
        self.taken = 0

    def ended(self):
        return self.taken >= len(self.pieces)

    def ahead(self):
        return "" if self.ended() else self.pieces[self.taken]

    def take(self):
        piece = self.ahead()
        self.taken += 1
        return piece

    def take_word(self, word):
        if self.ahead() != word:
            return False
        self.taken += 1
        return True

    def take_saying(self):
        piece = self.take()
        if not piece.startswith(QUOTE) or not is_saying(piece[1:-1]):
            raise WrongText()
        return piece[1:-1]

    def must_end(self):
        if not self.ended():
            raise WrongText()
