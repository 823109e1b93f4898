"""Promise 1: page."""

import unittest

from lines import RESET, SIZE, STATES, WAY, last, page, page_text, press, reach, row, rules, said

SIXTEEN = ["page top"] + ["  p " + letter for letter in "abcdefghijklmno"]
FULL = [
    "page top label \"All\" by a b hint a off order 1",
    "  check a \"Own text 1\" label \"Label 2\" by a b top hint b hidden off on order 9 press show:a hide:b flip:top",
    "  button b press show:top show:top show:top",
    "  link c off order 5 press flip:c",
]


class PageTest(unittest.TestCase):
    def taken(self, *lines):
        self.assertEqual(last(page(*lines)), [len(lines)], lines)

    def refused(self, *lines):
        self.assertEqual(last(page(*lines)), [-1], lines)

    def one_box(self, line, good):
        others = ["  p one \"One\"", "  p two", "  p three", "  p four"]
        lines = ["page top", "  " + line] + others
        self.assertEqual(last(page(*lines)), [6 if good else -1], line)

    def test_object_at_first(self):
        self.assertEqual(said(SIZE, STATES, WAY, reach("top"), press("top"), RESET),
                         [[1, 0, 0, 0], [1, 0], [1, 0], [1, 0], [-5], [0]])

    def test_how_many_boxes(self):
        self.taken("page top")
        self.taken("page a", "  part b", "    p c")
        self.taken(*FULL)

    def test_sixteen_boxes_but_not_seventeen(self):
        self.taken(*SIXTEEN)
        self.refused(*SIXTEEN, "  p q")

    def test_every_kind(self):
        self.taken("page top", "  part a", "  h1 b", "  h2 c", "  h3 d", "  p e", "  link f", "  button g",
                   "  field h", "  check i", "  image j", "  live k", "  modal l")
        self.taken("page top", "  list a", "    item b", "  table c", "    row d", "      cell e", "      th f")
        for kind in ("Part", "h4", "div", "pa", "parts", "label", "\"p\""):
            self.one_box(kind + " x", False)

    def test_ends_of_lines(self):
        for text in ("", "\n", "page top", "page top\n\n", "\npage top\n", "page top\r\n", "page top \n",
                     "page top\n  p a", "page top\n\n  p a\n"):
            self.assertEqual(last(page_text(text)), [-1], text)
        self.assertEqual(last(page_text("page top\n")), [1])

    def test_blanks(self):
        for line in ("p  x", " p x", "p x ", "p\tx", "p x  \"A\"", "p x \"A\" ", "p x by  one", "link x press  show:one",
                     "link x press show: one", "link x press show :one", "p x\"A\"", "p x \"A\"label \"B\"",
                     "p x \"A\":hidden", "p x \"A\"\nhidden", "qqp x", ""):
            self.one_box(line, False)

    def test_levels(self):
        self.taken("page top", "  part a", "    part b", "      part c", "        part d", "          part e")
        self.taken("page top", "  part a", "    part b", "  part c")
        self.refused("page top", "  part a", "    part b", "      part c", "        part d", "          part e",
                     "            p f")
        self.refused("page top", "    p a")
        self.refused("page top", "p a")
        self.refused("page top", " p a")
        self.refused("page top", "   p a")
        self.refused("page top", "  part a", "      p b")
        self.refused("  page top")
        self.refused("  page top", "    p a")

    def test_first_box(self):
        self.refused("part top")
        self.refused("page top hidden")
        self.refused("page top", "  page a")
        self.refused("page top", "page a")

    def test_ids(self):
        for ident in ("a", "abcdef", "page", "show", "flip", "text", "focus", "labels", "ons", "hid", "z"):
            self.one_box("p " + ident, True)
        for ident in ("", "abcdefg", "A", "aB", "a1", "a-b", "1", "label", "by", "hint", "hidden", "off", "on", "order",
                      "press", "a:b", "\"a\"", "\xe4"):
            self.one_box("p " + ident, False)
        self.refused("page top", "  p top")
        self.refused("page top", "  p a", "  p a")

    def test_own_text_and_label(self):
        for saying in ("A", "a1Z", "0", "on", "A b C", "12345678901234567890", "label by hint", "123456789 123456789 "[:19]):
            self.one_box("p x \"" + saying + "\"", True)
            self.one_box("p x label \"" + saying + "\"", True)
        for saying in ("", " ", "A ", " A", "A  b", "123456789012345678901", "1234567890 1234567890", "A.", "A-b", "A\tb",
                       "\xe9", "A\"b", "A:b", "A?"):
            self.one_box("p x \"" + saying + "\"", False)
            self.one_box("p x label \"" + saying + "\"", False)
        for line in ("p x A", "p x \"A", "p x A\"", "p x \"", "p x label", "p x label A", "p x label xAx", "p x label label \"A\"",
                     "p x \"A\" \"B\"", "p x label \"A\" \"B\"", "p x \"A\"\"B\""):
            self.one_box(line, False)

    def test_by_and_hint(self):
        for line in ("p x by one", "p x by x", "p x by one two three", "p x by top hint x", "p x hint x", "p x hint one"):
            self.one_box(line, True)
        for line in ("p x by", "p x by one two three four", "p x by one one", "p x by one two one", "p x by five",
                     "p x by one by two", "p x by \"A\"", "p x hint", "p x hint five", "p x hint one two", "p x by hint one",
                     "p x hint one by two", "p x by one label \"A\"", "p x hint hint", "p x by one,two"):
            self.one_box(line, False)

    def test_marks(self):
        for line in ("p x hidden", "p x off", "p x hidden off", "check x on", "check x hidden off on", "p x hidden order 5"):
            self.one_box(line, True)
        for number in range(1, 10):
            self.one_box("p x order %d" % number, True)
        for line in ("p x off hidden", "p x hidden hidden", "check x on off", "p x on", "button x on", "p x order",
                     "p x order 0", "p x order 10", "p x order 01", "p x order a", "p x order 1 order 2", "p x order 1 off",
                     "p x order -1", "p x hidden \"A\"", "p x Hidden", "p x order \"1\""):
            self.one_box(line, False)

    def test_acts(self):
        for line in ("link x press show:one", "button x press hide:x", "check x press flip:top",
                     "button x press show:one hide:two flip:three", "link x press show:one show:one"):
            self.one_box(line, True)
        for line in ("link x press", "link x press show", "link x press show:", "link x press :one", "link x press see:one",
                     "link x press show:five", "link x press show:one:two", "link x press show:one,hide:two",
                     "link x press show:one show:two show:three show:four", "p x press show:one", "field x press show:one",
                     "modal x press show:one", "link x press show:one off", "link x press show:on", "link x press Show:one",
                     "link x press show:one press hide:one", "link x show:one"):
            self.one_box(line, False)

    def test_what_stands_in_what(self):
        self.taken("page top", "  table t", "    row r", "      cell c", "        list l", "          item i")
        self.taken("page top", "  list l", "    item i", "      table t", "        row r", "          th h")
        self.taken("page top", "  p a", "    part b", "      image c", "        p d")
        for outer, inner in (("part", "row"), ("list", "row"), ("part", "cell"), ("table", "cell"), ("part", "th"),
                             ("table", "th"), ("part", "item"), ("table", "item"), ("table", "p"), ("table", "table"),
                             ("list", "p"), ("list", "list"), ("modal", "item")):
            self.refused("page top", "  " + outer + " a", "    " + inner + " b")
        for inner in ("row", "cell", "th", "item"):
            self.refused("page top", "  " + inner + " a")
        for inner in ("p", "item", "row", "button", "part"):
            self.refused("page top", "  table t", "    row r", "      " + inner + " a")
        self.refused("page top", "  table t", "    row r", "      cell c", "        cell d")
        self.refused("page top", "  list l", "    item i", "      item j")

    def test_strange_bytes(self):
        for byte in (0, 9, 11, 13, 33, 58, 63, 91, 96, 123, 127, 128, 160, 255):
            self.one_box("p " + chr(byte), False)
            self.one_box("p x \"" + chr(byte) + "\"", False)

    def test_a_new_page_is_in_its_state_at_first(self):
        lines = ["page top", "  check a \"A\" press show:b", "  p b hidden"]
        self.assertEqual(said(page(*lines), press("a"), SIZE, page(*lines), SIZE),
                         [[3], [0, 1], [3, 0, 1, 0], [3], [3, 1, 0, 0]])

    def test_a_refused_page_leaves_everything(self):
        lines = ["page top", "  check a press show:b", "  p b hidden"]
        calls = [page(*lines), rules("check check from label"), press("a"), page("page a", "  p a"), SIZE, WAY]
        self.assertEqual(said(*calls), [[3], [3], [0, 1], [-1], [3, 0, 1, 1], [1] + row("a")])

    def test_the_rules_stay_with_a_new_page(self):
        self.assertEqual(said(rules("page page focus"), SIZE, page("page a"), SIZE), [[5], [1, 0, 0, 1], [1], [1, 0, 0, 1]])


if __name__ == "__main__":
    unittest.main()
