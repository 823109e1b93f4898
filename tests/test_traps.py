"""Promises 9, 10 and 11: trap, dead and unseen."""

import unittest

from lines import DEAD, RESET, SIZE, STATES, TRAP, UNSEEN, WAY, found_trap, last, page, press, row, rules, said

# In the outer modal lies another one, which can be closed; the outer one can't.
INNER_CLOSES = [
    "page top", "  button ask press show:outer", "  modal outer hidden", "    button more press show:inner",
    "    modal inner hidden", "      button back press hide:inner",
]


class TrapTest(unittest.TestCase):
    def trap(self, *lines):
        return last(page(*lines), TRAP)

    def test_no_modal(self):
        self.assertEqual(last(TRAP), [0])
        self.assertEqual(self.trap("page top", "  check a", "  p b"), [0])
        self.assertEqual(self.trap("page top", "  button a press show:b", "  part b hidden"), [0])

    def test_a_modal_that_never_is_visible(self):
        self.assertEqual(self.trap("page top", "  modal m hidden"), [0])
        self.assertEqual(self.trap("page top", "  part a hidden", "    modal m", "  check b"), [0])

    def test_no_way_out(self):
        self.assertEqual(self.trap("page top", "  modal m"), found_trap([], "m"))
        self.assertEqual(self.trap("page top", "  button a press show:m", "  modal m hidden"), found_trap(["a"], "m"))
        self.assertEqual(self.trap("page top", "  modal m", "    check a"), found_trap([], "m"))

    def test_a_way_out(self):
        for verb in ("hide", "flip"):
            ask = ["page top", "  button a press show:m", "  modal m hidden"]
            self.assertEqual(self.trap(*ask, "    button b press " + verb + ":m"), [0])
            self.assertEqual(self.trap("page top", "  modal m", "    check b press " + verb + ":m"), [0])

    def test_a_way_out_that_cannot_be_gone(self):
        ask = ["page top", "  button a press show:m", "  modal m hidden"]
        self.assertEqual(self.trap(*ask, "    button b off press hide:m"), found_trap(["a"], "m"))
        self.assertEqual(self.trap(*ask, "    button b hidden press hide:m"), found_trap(["a"], "m"))
        self.assertEqual(self.trap(*ask, "  button b press hide:m"), found_trap(["a"], "m"))
        self.assertEqual(self.trap(*ask, "    button b press hide:m show:m"), found_trap(["a"], "m"))
        self.assertEqual(self.trap(*ask, "    button b press show:m"), found_trap(["a"], "m"))

    def test_a_way_out_by_several_presses(self):
        lines = ["page top", "  button a press show:m", "  modal m hidden", "    button b press show:c",
                 "    button c hidden press show:d", "    button d hidden press hide:m"]
        self.assertEqual(self.trap(*lines), [0])
        self.assertEqual(self.trap(*lines[:-1], "    button d off press hide:m"), found_trap(["a"], "m"))

    def test_a_wrong_press_shuts_the_way_out(self):
        lines = ["page top", "  modal m", "    button a press hide:m", "    button b press hide:a"]
        self.assertEqual(self.trap(*lines), found_trap(["b"], "m"))
        self.assertEqual(self.trap(*lines, "    button c press show:a"), [0])

    def test_the_box_around_may_be_hidden(self):
        lines = ["page top", "  part z", "    modal m", "      button a press hide:z"]
        self.assertEqual(self.trap(*lines), [0])
        self.assertEqual(self.trap("page top", "  modal m", "    button a press hide:top"), [0])

    def test_above_another_modal(self):
        self.assertEqual(self.trap(*INNER_CLOSES), found_trap(["ask"], "outer"))
        self.assertEqual(self.trap(*INNER_CLOSES, "    button out press hide:outer"), [0])
        opened = [line.replace(" hidden", "") for line in INNER_CLOSES]
        self.assertEqual(self.trap(*opened), found_trap(["back"], "outer"))

    def test_the_inner_modal_of_two_has_no_way_out(self):
        lines = INNER_CLOSES[:-1] + ["      button back press hide:top show:top", "    button out press hide:outer"]
        self.assertEqual(self.trap(*lines), found_trap(["ask", "more"], "inner"))

    def test_out_through_another_modal(self):
        lines = ["page top", "  button ask press show:m", "  modal m hidden", "    button more press show:n",
                 "  modal n hidden", "    button back press hide:n", "    button out press hide:n hide:m"]
        self.assertEqual(self.trap(*lines), [0])
        self.assertEqual(self.trap(*lines[:-1]), found_trap(["ask"], "m"))

    def test_the_modal_itself_must_go_not_any(self):
        """Another modal takes its place, and the first one stays visible below it."""
        lines = ["page top", "  modal m", "    button a press show:n", "  modal n hidden"]
        self.assertEqual(self.trap(*lines), found_trap([], "m"))
        lines = ["page top", "  modal m", "    button a press show:n hide:m", "  modal n hidden", "    button b press flip:m flip:n"]
        self.assertEqual(self.trap(*lines), [0])

    def test_the_last_visible_modal_is_the_one_told(self):
        self.assertEqual(self.trap("page top", "  modal m", "  modal n", "  modal o hidden"), found_trap([], "n"))

    def test_the_first_state_found(self):
        lines = ["page top", "  button b press show:n", "  button a press show:m", "  modal m hidden", "  modal n hidden"]
        self.assertEqual(self.trap(*lines), found_trap(["b"], "n"))
        lines = ["page top", "  button a press show:b", "  button b hidden press show:m", "  button c press show:n",
                 "  modal m hidden", "  modal n hidden"]
        self.assertEqual(self.trap(*lines), found_trap(["c"], "n"))
        lines = ["page top", "  button a press show:b", "  button b hidden press show:m", "  check c", "  modal m hidden"]
        self.assertEqual(self.trap(*lines), found_trap(["a", "b"], "m"))

    def test_from_the_state_at_first(self):
        lines = ["page top", "  button a press hide:b", "  button b press show:m", "  modal m hidden"]
        self.assertEqual(said(page(*lines), press("a"), TRAP, SIZE, WAY)[2:],
                         [found_trap(["b"], "m"), [4, 2, 0, 1], [1] + row("a")])

    def test_rules_are_not_asked(self):
        self.assertEqual(last(page(*INNER_CLOSES), rules("modal part", "button text whole"), TRAP), found_trap(["ask"], "outer"))


class DeadTest(unittest.TestCase):
    def dead(self, *lines):
        return last(page(*lines), DEAD)

    def test_none(self):
        self.assertEqual(last(DEAD), [0])
        self.assertEqual(self.dead("page top", "  check a", "  link b press hide:a", "  button c press hide:b"), row())

    def test_what_does_nothing_is_not_dead(self):
        self.assertEqual(self.dead("page top", "  button a off", "  link b hidden", "  field c off", "  p d hidden"), row())

    def test_off(self):
        lines = ["page top", "  check a off", "  check b", "  button c off press hide:b", "  link d off press hide:b"]
        self.assertEqual(self.dead(*lines), row("a", "c", "d"))

    def test_never_visible(self):
        lines = ["page top", "  check a hidden", "  part b hidden", "    part c", "      link d press show:b", "  check e"]
        self.assertEqual(self.dead(*lines), row("a", "d"))

    def test_shown_late(self):
        lines = ["page top", "  button a press show:b", "  button b hidden press show:c", "  check c hidden", "  check d hidden"]
        self.assertEqual(self.dead(*lines), row("d"))

    def test_hidden_for_ever_but_not_at_first(self):
        self.assertEqual(self.dead("page top", "  button a press hide:b", "  check b"), row())

    def test_shown_but_off(self):
        self.assertEqual(self.dead("page top", "  button a press show:b", "  check b hidden off"), row("b"))

    def test_outside_of_a_modal_that_never_goes_away(self):
        self.assertEqual(self.dead("page top", "  check a", "  modal m", "    check b", "  check c"), row("a", "c"))
        lines = ["page top", "  check a", "  modal m", "    button b press hide:m", "  check c"]
        self.assertEqual(self.dead(*lines), row())

    def test_in_a_modal_below_another(self):
        lines = ["page top", "  modal m", "    check a", "    modal n", "      check b", "    check c"]
        self.assertEqual(self.dead(*lines), row("a", "c"))

    def test_visible_only_behind_a_modal(self):
        lines = ["page top", "  button a press show:m show:b", "  check b hidden", "  modal m hidden", "    check c"]
        self.assertEqual(self.dead(*lines), row("b"))

    def test_from_the_state_at_first(self):
        lines = ["page top", "  button a press hide:a", "  check longid off"]
        self.assertEqual(said(page(*lines), press("a"), DEAD, SIZE, RESET)[2:], [row("longid"), [3, 1, 0, 1], [0]])


class UnseenTest(unittest.TestCase):
    def unseen(self, *lines):
        return last(page(*lines), UNSEEN)

    def test_none(self):
        self.assertEqual(last(UNSEEN), [0])
        self.assertEqual(self.unseen("page top", "  p a off", "  button b off press hide:a"), row())

    def test_never_shown(self):
        lines = ["page top", "  p a hidden", "  part b hidden", "    p c", "    part d hidden", "      p e", "  p f"]
        self.assertEqual(self.unseen(*lines), row("a", "b", "c", "d", "e"))

    def test_shown_late(self):
        lines = ["page top", "  button a press show:b", "  button b hidden press flip:c", "  p c hidden", "  p d hidden"]
        self.assertEqual(self.unseen(*lines), row("d"))

    def test_shown_in_what_stays_hidden(self):
        lines = ["page top", "  button a press show:c", "  part b hidden", "    p c hidden"]
        self.assertEqual(self.unseen(*lines), row("b", "c"))

    def test_never_both_at_once(self):
        lines = ["page top", "  button a press flip:b flip:c", "  part b hidden", "    part c", "      p d"]
        self.assertEqual(self.unseen(*lines), row("c", "d"))

    def test_shown_by_what_cannot_be_pressed(self):
        lines = ["page top", "  button a off press show:c", "  button b hidden press show:c", "  p c hidden"]
        self.assertEqual(self.unseen(*lines), row("b", "c"))
        lines = ["page top", "  button a press show:b", "  p b hidden", "  modal m"]
        self.assertEqual(self.unseen(*lines), row("b"))

    def test_hidden_in_the_end(self):
        self.assertEqual(self.unseen("page top", "  button a press hide:top"), row())

    def test_swallowed_boxes_are_seen(self):
        self.assertEqual(self.unseen("page top", "  h1 a", "    p b"), row())

    def test_from_the_state_at_first(self):
        lines = ["page top", "  button a press hide:b", "  p b", "  p c hidden"]
        self.assertEqual(said(page(*lines), press("a"), UNSEEN, STATES, WAY)[2:], [row("c"), [2, 1], [1] + row("a")])


if __name__ == "__main__":
    unittest.main()
