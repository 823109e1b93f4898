"""Promises 5, 6 and 8: states, way and reach."""

import unittest

from lines import DEAD, RESET, SIZE, SPEAKS, STATES, TRAP, UNSEEN, WAY
from lines import faulty, last, page, press, reach, row, rules, said, told

# Five parts in one another, the last one a button, each flipped by a button of its own; and a modal to open and close.
# The innermost button can be pressed in one state alone, and then nothing can be pressed any more.
JUST_ENOUGH = [
    "page top", "  button a press flip:f", "  button b press flip:g", "  button c press flip:h", "  button d press flip:i",
    "  button e press flip:j", "  button k press show:m", "  part f hidden", "    part g hidden", "      part h hidden",
    "        part i hidden", "          button j hidden off press hide:top", "  modal m hidden", "    button n press hide:m",
]
ONE_TOO_MANY = [line.replace(" off", "") for line in JUST_ENOUGH]


def checks(many):
    return ["page top"] + ["  check " + letter for letter in "abcdefghijkl"[:many]]


class StatesTest(unittest.TestCase):
    def test_one_state(self):
        self.assertEqual(last(page("page top", "  p a"), STATES), [1, 0])
        self.assertEqual(last(page("page top", "  button a press show:a"), STATES), [1, 0])
        self.assertEqual(last(page("page top", "  check a off", "  check b hidden"), STATES), [1, 0])

    def test_found_once(self):
        self.assertEqual(last(page("page top", "  button a press flip:b", "  p b", "  button c press hide:b"), STATES), [2, 1])

    def test_hidden_and_on_both_count(self):
        self.assertEqual(last(page("page top", "  check a press hide:b", "  p b"), STATES), [3, 2])

    def test_hidden_boxes_count_even_if_not_visible(self):
        lines = ["page top", "  part a hidden", "    p b", "  button c press flip:b"]
        self.assertEqual(last(page(*lines), STATES), [2, 1])

    def test_longest_row(self):
        chain = ["page top", "  button a press show:b", "  button b hidden press show:c", "  button c hidden press show:d",
                 "  p d hidden"]
        self.assertEqual(last(page(*chain), STATES), [4, 3])

    def test_from_the_state_at_first(self):
        lines = ["page top", "  button a press hide:a", "  check b"]
        self.assertEqual(said(page(*lines), STATES, press("a"), STATES, press("b"), STATES),
                         [[3], [4, 2], [1, 0], [4, 2], [1, 1], [4, 2]])

    def test_sixty_four_are_not_too_many(self):
        self.assertEqual(last(page(*checks(6)), STATES), [64, 6])
        self.assertEqual(last(page(*JUST_ENOUGH), STATES), [64, 6])
        self.assertEqual(said(page(*JUST_ENOUGH), WAY, faulty(9), reach("n"), TRAP, DEAD, UNSEEN, SPEAKS)[1:],
                         [[1, 0], [0], [1] + row("k"), [0], row("j"), row(), [0]])

    def test_more_than_sixty_four_are_too_many(self):
        for lines in (checks(7), checks(12), ONE_TOO_MANY):
            for call in (STATES, WAY, reach("top"), faulty(0), faulty(9), TRAP, DEAD, UNSEEN, SPEAKS):
                self.assertEqual(last(page(*lines), call), [-7], (lines, call))

    def test_too_many_states_change_nothing_else(self):
        self.assertEqual(said(page(*checks(7)), press("a"), STATES, WAY, SIZE, press("b"), RESET),
                         [[8], [0, 1], [-7], [-7], [8, 0, 1, 7], [0, 2], [0]])
        self.assertEqual(said(page(*checks(7)), press("a"), TRAP, DEAD, UNSEEN, SPEAKS, SIZE, told("b"), press("b")),
                         [[8], [0, 1], [-7], [-7], [-7], [-7], [8, 0, 1, 7], [0], [0, 2]])


class WayTest(unittest.TestCase):
    def test_shortest_row(self):
        lines = ["page top", "  check a", "  check b"]
        self.assertEqual(last(page(*lines), press("b"), press("a"), press("b"), WAY), [1] + row("a"))
        self.assertEqual(last(page(*lines), press("b"), press("a"), WAY), [1] + row("a", "b"))
        self.assertEqual(last(page(*lines), press("b"), press("b"), WAY), [1, 0])

    def test_the_row_found_first(self):
        lines = ["page top", "  button a press show:x", "  button b press show:y", "  button c press show:x show:y",
                 "  p x hidden", "  p y hidden"]
        self.assertEqual(last(page(*lines), press("a"), press("b"), WAY), [1] + row("c"))
        lines = ["page top", "  button b press show:x", "  button a press show:x", "  p x hidden"]
        self.assertEqual(last(page(*lines), press("a"), WAY), [1] + row("b"))

    def test_the_state_from_which_it_was_found(self):
        """Of two rows of two presses that one counts whose first state was found first."""
        lines = ["page top", "  button a press show:c", "  button b press show:d", "  button c hidden press show:d show:e",
                 "  button d hidden press show:c show:e", "  p e hidden"]
        self.assertEqual(last(page(*lines), press("b"), press("d"), WAY), [1] + row("a", "c"))

    def test_a_row_leads_through_a_modal(self):
        lines = ["page top", "  button ask press show:m", "  modal m hidden", "    button yes press show:x hide:m",
                 "  p x hidden"]
        self.assertEqual(last(page(*lines), press("ask"), press("yes"), WAY), [1] + row("ask", "yes"))

    def test_after_reset(self):
        self.assertEqual(last(page("page top", "  check abcdef"), press("abcdef"), WAY), [1] + row("abcdef"))
        self.assertEqual(last(page("page top", "  check a"), press("a"), RESET, WAY), [1, 0])


class ReachTest(unittest.TestCase):
    LINES = [
        "page top", "  button ask press show:m", "  modal m hidden", "    button more press show:q", "    p q hidden",
        "  part never hidden", "    p r", "  button late off press show:never",
    ]

    def test_reach(self):
        for ident, answer in (("top", [1, 0]), ("ask", [1, 0]), ("m", [1] + row("ask")), ("more", [1] + row("ask")),
                              ("q", [1] + row("ask", "more")), ("never", [0]), ("r", [0]), ("late", [1, 0])):
            self.assertEqual(last(page(*self.LINES), reach(ident)), answer, ident)

    def test_from_the_state_at_first(self):
        self.assertEqual(last(page(*self.LINES), press("ask"), press("more"), reach("q")), [1] + row("ask", "more"))
        lines = ["page top", "  button a press hide:a"]
        self.assertEqual(last(page(*lines), press("a"), reach("a")), [1, 0])

    def test_first_state_found(self):
        lines = ["page top", "  button b press show:x", "  button a press show:x show:y", "  p x hidden", "  p y hidden"]
        self.assertEqual(last(page(*lines), reach("x")), [1] + row("b"))
        self.assertEqual(last(page(*lines), reach("y")), [1] + row("a"))

    def test_visible_needs_all_around(self):
        lines = ["page top", "  part p hidden", "    p q hidden", "  button a press show:q", "  button b press show:p"]
        self.assertEqual(last(page(*lines), reach("q")), [1] + row("a", "b"))

    def test_no_box(self):
        for ident in ("", "x", "Top", "to", "topp", "\x00"):
            self.assertEqual(last(reach(ident)), [-3], ident)

    def test_order_of_refusals(self):
        self.assertEqual(last(page(*checks(7)), reach("x")), [-3])
        self.assertEqual(last(page(*checks(7)), reach("a")), [-7])

    def test_nothing_is_pressed(self):
        self.assertEqual(said(page(*self.LINES), reach("q"), STATES, faulty(0), WAY, SIZE)[4:], [[1, 0], [8, 3, 0, 2]])

    def test_rules_are_not_asked(self):
        self.assertEqual(last(page(*self.LINES), rules("button x", "modal m focus whole"), reach("q")), [1] + row("ask", "more"))


if __name__ == "__main__":
    unittest.main()
