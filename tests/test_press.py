"""Promises 3 and 4: press and reset."""

import unittest

from lines import RESET, SIZE, WAY, last, page, press, row, said

MODALS = [
    "page top", "  button out press show:inner", "  modal outer hidden", "    button a press hide:outer",
    "    modal inner hidden", "      button b press hide:inner", "    part z", "      button d press flip:z",
    "  button ask press show:outer",
]


class PressTest(unittest.TestCase):
    def test_no_box(self):
        for ident in ("", "b", "aa", "A", "a ", "press", "?", "\xff", "a" * 4000):
            self.assertEqual(said(page("page top", "  check a"), press(ident), SIZE)[1:], [[-3], [2, 0, 0, 1]], ident)

    def test_does_nothing(self):
        lines = ["page top", "  button a", "  p b hidden off", "  link c", "  field d", "  modal e hidden"]
        for ident in ("top", "a", "b", "c", "d", "e"):
            self.assertEqual(last(page(*lines), press(ident)), [-5], ident)

    def test_check_is_on_and_off(self):
        lines = ["page top", "  check a", "  check b on"]
        self.assertEqual(said(page(*lines), press("a"), press("a"), press("b"), press("b")),
                         [[3], [0, 2], [0, 1], [0, 0], [0, 1]])

    def test_acts(self):
        lines = ["page top", "  button s press show:x", "  button h press hide:x", "  button f press flip:x", "  p x"]
        self.assertEqual(said(page(*lines), press("s"), press("h"), press("h"), press("s"), press("f"), press("f")),
                         [[5], [0, 0], [1, 0], [1, 0], [0, 0], [1, 0], [0, 0]])

    def test_acts_one_after_the_other(self):
        lines = ["page top", "  button a press hide:x flip:x", "  button b press flip:x hide:x",
                 "  check c press flip:x flip:y flip:x", "  p x", "  p y"]
        self.assertEqual(said(page(*lines), press("a"), press("b"), press("a"), press("c"), press("c")),
                         [[6], [0, 0], [1, 0], [0, 0], [1, 1], [0, 0]])

    def test_off(self):
        lines = ["page top", "  check a off", "  button b off press hide:a", "  check c off on"]
        for ident in ("a", "b", "c"):
            self.assertEqual(said(page(*lines), press(ident), SIZE)[1:], [[-6], [4, 0, 1, 3]], ident)

    def test_hidden(self):
        lines = ["page top", "  check a hidden", "  part b hidden", "    part c", "      check d", "  check e"]
        for ident in ("a", "d"):
            self.assertEqual(last(page(*lines), press(ident)), [-6], ident)
        self.assertEqual(last(page(*lines), press("e")), [2, 1])

    def test_hidden_by_a_press(self):
        lines = ["page top", "  part a", "    check b", "  button c press flip:a"]
        self.assertEqual(said(page(*lines), press("c"), press("b"), press("c"), press("b")),
                         [[4], [1, 0], [-6], [0, 0], [0, 1]])

    def test_the_page_may_be_hidden(self):
        lines = ["page top", "  button a press hide:top"]
        self.assertEqual(said(page(*lines), press("a"), press("a"), SIZE), [[2], [1, 0], [-6], [2, 1, 0, 0]])

    def test_modal(self):
        self.assertEqual(last(page(*MODALS), press("b")), [-6])
        ask = [page(*MODALS), press("ask")]
        self.assertEqual(last(*ask, press("ask")), [-6])
        self.assertEqual(last(*ask, press("out")), [-6])
        self.assertEqual(last(*ask, press("d")), [2, 0])
        self.assertEqual(said(*ask, press("a"), press("ask"), press("out")), [[9], [1, 0], [2, 0], [1, 0], [-6]])

    def test_the_last_visible_modal(self):
        both = [page(*MODALS), press("out"), press("ask")]
        self.assertEqual(last(*both), [0, 0])
        self.assertEqual(last(*both, press("a")), [-6])
        self.assertEqual(last(*both, press("d")), [-6])
        self.assertEqual(said(*both, press("b"), press("a"))[3:], [[1, 0], [2, 0]])

    def test_a_modal_that_is_shown_in_a_hidden_one_is_none(self):
        self.assertEqual(said(page(*MODALS), press("out"), press("out")), [[9], [1, 0], [1, 0]])

    def test_the_last_of_two_modals_beside_one_another(self):
        lines = ["page top", "  modal m", "    check a", "  modal n", "    check b", "  check c"]
        self.assertEqual(said(page(*lines), press("a"), press("b"), press("c")), [[6], [-6], [0, 1], [-6]])

    def test_order_of_refusals(self):
        self.assertEqual(last(page("page top", "  button a hidden off"), press("a")), [-5])
        self.assertEqual(last(page("page top", "  button a hidden off"), press("b")), [-3])

    def test_a_refused_press_leaves_everything(self):
        lines = ["page top", "  check a press hide:b", "  check b", "  p c"]
        self.assertEqual(said(page(*lines), press("a"), press("b"), press("c"), press("d"), SIZE, WAY),
                         [[4], [1, 1], [-6], [-5], [-3], [4, 1, 1, 1], [1] + row("a")])


class ResetTest(unittest.TestCase):
    def test_reset(self):
        lines = ["page top", "  check a \"A\" on press show:b show:c", "  p b hidden", "  p c hidden"]
        self.assertEqual(said(RESET, page(*lines), RESET, press("a"), SIZE, RESET, SIZE, WAY),
                         [[0], [4], [2], [0, 0], [4, 0, 0, 0], [2], [4, 2, 1, 0], [1, 0]])


if __name__ == "__main__":
    unittest.main()
