"""Promises 7 and 14: faulty and size, and the nine kinds of faults."""

import unittest

from lines import SIZE, WAY, faulty, found_fault, last, page, press, row, rules, said


def table(*rows):
    """Rows of cells and heads, one word each: the kind's first letter, the id, and perhaps "-" for a hidden one."""
    lines = ["page top", "  table t"]
    for number, cells in enumerate(rows):
        lines.append("    row r" + "abc"[number])
        for cell in cells.split():
            kind = {"c": "cell", "h": "th"}[cell[0]]
            lines.append("      " + kind + " " + cell[1] + (" hidden" if cell.endswith("-") else ""))
    return lines


class KindTest(unittest.TestCase):
    def faults(self, kind, lines, changed=()):
        """How many faults of this kind there are at first, and the first one's box and the other one."""
        answer = last(page(*lines), rules(*changed), faulty(kind))
        self.assertNotIn(answer, ([-1], [-2], [-7]), lines)
        if answer == [0]:
            return 0, "", ""
        self.assertEqual(answer[:2], [1, 0], lines)
        self.assertEqual(answer[3], kind)
        box = bytes(answer[5:5 + answer[4]]).decode()
        other = bytes(answer[6 + answer[4]:]).decode()
        self.assertEqual(answer[5 + answer[4]], len(other))
        return answer[2], box, other

    def has(self, kind, lines, box, other="", many=1, changed=()):
        self.assertEqual(self.faults(kind, lines, changed), (many, box, other), lines)

    def has_not(self, kind, lines, changed=()):
        self.assertEqual(self.faults(kind, lines, changed), (0, "", ""), lines)

    def test_1_no_name(self):
        for kind in ("h1", "h2", "h3", "link", "button", "field", "check", "image", "modal"):
            self.has(1, ["page top", "  " + kind + " x"], "x")
            self.has_not(1, ["page top", "  " + kind + " x label \"X\""])
            self.has_not(1, ["page top", "  " + kind + " x hidden"])
            self.has_not(1, ["page top", "  part y hidden", "    " + kind + " x"])
            self.has_not(1, ["page top", "  h1 y \"Y\"", "    " + kind + " x"])
        for kind in ("part", "p", "list", "table", "live"):
            self.has_not(1, ["page top", "  " + kind + " x"])
            self.has(1, ["page top", "  " + kind + " x"], "x", changed=[kind + " a focus"])
        for kind in ("link", "button", "field", "check"):
            self.has_not(1, ["page top", "  " + kind + " x"], [kind + " a"])
        for kind in ("h1", "image", "modal"):
            self.has(1, ["page top", "  " + kind + " x label \"X\""], "x", changed=[kind + " a"])

    def test_2_namesakes(self):
        first = "  button a \"Go\" press hide:top"
        self.has(2, ["page top", first, "  button b \"Go\""], "b", "a")
        self.has(2, ["page top", first, "  button b \"Go\" press hide:a"], "b", "a")
        self.has(2, ["page top", first, "  button b \"Go\" press show:top"], "b", "a")
        self.has(2, ["page top", first, "  button b \"Go\" press hide:top hide:top"], "b", "a")
        self.has(2, ["page top", first, "  button b \"No\" label \"Go\""], "b", "a")
        self.has_not(2, ["page top", first, "  button b \"Go\" press hide:top"])
        self.has_not(2, ["page top", first, "  button b \"go\""])
        self.has_not(2, ["page top", first, "  button b \"Go on\""])
        self.has_not(2, ["page top", first, "  link b \"Go\""])
        self.has_not(2, ["page top", first, "  button b \"Go\" hidden"])
        self.has_not(2, ["page top", first.replace(" press", " hidden press"), "  button b \"Go\""])
        self.has_not(2, ["page top", "  button a press hide:top", "  button b"])
        self.has_not(2, ["page top", "  field a label \"Go\"", "  field b label \"Go\""])

    def test_2_order_of_acts(self):
        lines = ["page top", "  link a \"Go\" press hide:a show:b", "  link b \"Go\" press show:b hide:a"]
        self.has(2, lines, "b", "a")

    def test_2_the_first_other_one(self):
        lines = ["page top", "  link a \"Go\"", "  link b \"Go\" press hide:a", "  link c \"Go\" press hide:a", "  link d \"Go\""]
        self.has(2, lines, "b", "a", many=3)
        lines = ["page top", "  link a \"Go\"", "  link b \"Go\"", "  link c \"Go\" press hide:a"]
        self.has(2, lines, "c", "a")
        lines = ["page top", "  link b \"Go\" press hide:b", "  link a \"Go\" press hide:b", "  link c \"Go\""]
        self.has(2, lines, "c", "b")

    def test_2_roles_not_kinds(self):
        lines = ["page top", "  button a \"Go\" press hide:top", "  link b \"Go\""]
        self.has(2, lines, "b", "a", changed=["link button focus from text"])
        self.has_not(2, lines, ["link button from text"])
        self.has_not(2, lines, ["button link from text"])

    def test_2_said_by_itself(self):
        lines = ["page top", "  part h", "    button a \"Go\" press hide:top", "  button b \"Go\""]
        self.has(2, lines, "b", "a")
        self.has_not(2, lines, ["part x whole"])
        lines = ["page top", "  button a \"Go\" press hide:top", "  part h", "    button b \"Go\""]
        self.has(2, lines, "b", "a")
        self.has_not(2, lines, ["part x whole"])

    def test_3_levels(self):
        for before, kind, good in (([], "h1", True), ([], "h2", False), ([], "h3", False), (["h1"], "h1", True),
                                   (["h1"], "h2", True), (["h1"], "h3", False), (["h1", "h2"], "h3", True),
                                   (["h1", "h2", "h3"], "h1", True), (["h1", "h2", "h1"], "h3", False),
                                   (["h1", "h2"], "h2", True)):
            lines = ["page top"] + ["  " + word + " " + "abc"[at] for at, word in enumerate(before)] + ["  " + kind + " x"]
            if good:
                self.has_not(3, lines)
            else:
                self.has(3, lines, "x")

    def test_3_only_headings_that_are_said_by_themselves(self):
        self.has(3, ["page top", "  h1 a hidden", "  h2 x"], "x")
        self.has_not(3, ["page top", "  h1 a", "  h2 x hidden"])
        self.has_not(3, ["page top", "  h1 a", "    h3 x"])
        self.has(3, ["page top", "  h1 a", "    h2 b", "  h3 x"], "x")
        self.has(3, ["page top", "  h3 a", "  h3 b", "  h1 c", "  h3 x"], "a", many=2)

    def test_3_other_boxes_between_headings(self):
        self.has_not(3, ["page top", "  h1 a", "  p b", "  button c", "  h2 x"])
        self.has(3, ["page top", "  h1 a", "  p b", "  h3 x"], "x")

    def test_4_own_text_in_the_name(self):
        self.has(4, ["page top", "  button x \"Go\" label \"Leave\""], "x")
        self.has(4, ["page top", "  button x \"Go\" label \"G o\""], "x")
        self.has(4, ["page top", "  button x \"Go\" label \"go\""], "x")
        self.has(4, ["page top", "  field x \"Go\""], "x")
        self.has(4, ["page top", "  button x \"Go\" by y", "  p y \"No\""], "x")
        self.has_not(4, ["page top", "  button x \"Go\" label \"Gone\""])
        self.has_not(4, ["page top", "  button x \"go on\" label \"Let us go one\""])
        self.has_not(4, ["page top", "  button x \"Go\""])
        self.has_not(4, ["page top", "  button x label \"Go\""])
        self.has_not(4, ["page top", "  button x"])
        self.has_not(4, ["page top", "  image x \"Go\" label \"No\""])
        self.has_not(4, ["page top", "  button x \"Go\" label \"No\" hidden"])
        self.has_not(4, ["page top", "  h1 y \"Y\"", "    button x \"Go\" label \"No\""])
        self.has_not(4, ["page top", "  button x \"Go\" label \"No\""], ["button a from label"])

    def test_4_across_names_put_together(self):
        self.has_not(4, ["page top", "  button x \"Go on\" by y z", "  p y \"Go\"", "  p z \"on\""])

    def test_5_heads(self):
        self.has(5, table("cx"), "x")
        self.has_not(5, table("ha cx"))
        self.has_not(5, table("cx ha"))
        self.has_not(5, table("ha", "cx"))
        self.has(5, table("cx", "ha"), "x")
        self.has(5, table("ha-", "cx"), "x")
        self.has(5, table("ha- cx"), "x")
        self.has(5, table("ha", "cx cy"), "y")
        self.has_not(5, table("ha hb", "cx cy"))
        self.has_not(5, table("ha hb", "cx", "cy cz"))
        self.has(5, table("ha hb", "cx", "cy cz cw"), "w")
        self.has_not(5, table("ha", "cx-"))
        self.has_not(5, table("cx-"))

    def test_5_hidden_boxes_have_columns_too(self):
        self.has_not(5, table("ha- hb", "cx- cy"))
        self.has(5, table("ha hb-", "cx- cy"), "y")

    def test_5_hidden_rows_and_other_tables(self):
        lines = table("ha", "cx")
        self.has(5, [line + " hidden" if line.endswith("ra") else line for line in lines], "x")
        self.has_not(5, [line + " hidden" if line.endswith("rb") else line for line in lines])
        self.has(5, lines + ["  table u", "    row v", "      cell w"], "w")

    def test_5_only_cells_that_are_said_by_themselves(self):
        self.has_not(5, table("cx"), ["row row whole"])
        self.has_not(5, table("hx"))
        self.has_not(5, table("ha cx"), ["table table whole"])

    def test_6_hint(self):
        self.has(6, ["page top", "  p x hint y", "  p y"], "x", "y")
        self.has(6, ["page top", "  p x hint x"], "x", "x")
        self.has(6, ["page top", "  p x \"X\" hint y", "  p y label \"Y\""], "x", "y")
        self.has_not(6, ["page top", "  p x hint y", "  p y \"Y\""])
        self.has_not(6, ["page top", "  p x hint y", "  p y \"Y\" hidden"])
        self.has_not(6, ["page top", "  p x", "  p y"])
        self.has_not(6, ["page top", "  p x hint y hidden", "  p y"])
        self.has_not(6, ["page top", "  h1 z", "    p x hint y", "  p y"])

    def test_6_an_inner_name_takes_nothing_from_by_and_hint(self):
        self.has(6, ["page top", "  p x hint y", "  button y by z hint z", "  p z \"Z\""], "x", "y")

    def test_7_labels(self):
        self.has(7, ["page top", "  p x by y", "  p y"], "x")
        self.has(7, ["page top", "  p x by y z x", "  p y", "  p z label \"Z\""], "x")
        self.has_not(7, ["page top", "  p x by y z", "  p y", "  p z \"Z\""])
        self.has_not(7, ["page top", "  p x by y", "  p y \"Y\" hidden"])
        self.has_not(7, ["page top", "  p x \"X\" by x"])
        self.has_not(7, ["page top", "  p x"])
        self.has_not(7, ["page top", "  p x by y hidden", "  p y"])
        self.has_not(7, ["page top", "  h1 z", "    p x by y", "  p y"])
        self.has(7, ["page top", "  part x label \"X\" by y", "  button y by z hint z", "  p z \"Z\""], "x")

    def test_8_no_focus(self):
        changed = ["check check from text", "button button from text", "link link from text"]
        for line in ("check x \"X\"", "button x press hide:x", "link x press hide:x"):
            self.has(8, ["page top", "  " + line], "x", changed=changed)
            self.has_not(8, ["page top", "  " + line])
            off = line.replace(" press", " off press") if "press" in line else line + " off"
            self.has_not(8, ["page top", "  " + off], changed)
            hidden = off.replace(" off", " hidden")
            self.has_not(8, ["page top", "  " + hidden], changed)
            self.has(8, ["page top", "  h1 y", "    " + line], "x", changed=changed)
        self.has_not(8, ["page top", "  button x", "  link y", "  p z"], changed)

    def test_9_said_with_another(self):
        self.has(9, ["page top", "  h1 y", "    button x"], "x")
        self.has(9, ["page top", "  h1 y", "    part z", "      field x off"], "x")
        self.has(9, ["page top", "  button y", "    check x"], "x")
        self.has_not(9, ["page top", "  part y", "    button x"])
        self.has_not(9, ["page top", "  h1 y", "    button x hidden"])
        self.has_not(9, ["page top", "  h1 y hidden", "    button x"])
        self.has_not(9, ["page top", "  h1 y", "    p x"])
        self.has_not(9, ["page top", "  h1 y", "    button x"], ["button button whole"])
        self.has_not(9, ["page top", "  h1 y", "    button x"], ["h1 heading"])
        self.has(9, ["page top", "  field y", "    part x"], "x", changed=["part part focus", "field field whole"])


class NameTest(unittest.TestCase):
    """Names, as the faults tell them."""

    def test_name_is_the_first_source_that_gives_something(self):
        lines = ["page top", "  button a \"T\" label \"L\" by p q r hint s press hide:a", "    p k \"K\"", "  p p \"P\"", "  p q",
                 "  p r \"R\"", "  p s \"S\"", "  button n label \"%s\""]
        for line, name in ((lines[1], "P R"), (lines[1].replace(" by p q r", " by q"), "L"),
                           (lines[1].replace(" by p q r", ""), "L"),
                           (lines[1].replace(" label \"L\" by p q r", ""), "T"),
                           ("  button a hint s press hide:a", "K")):
            full = ["page top", line] + lines[2:-1] + [lines[-1] % name]
            self.assertEqual(last(page(*full), faulty(2)), found_fault([], 1, 2, "n", "a"), line)
        full = ["page top", "  button a hint s press hide:a", lines[2] + " hidden"] + lines[3:-1] + [lines[-1] % "S"]
        self.assertEqual(last(page(*full), faulty(2)), found_fault([], 1, 2, "n", "a"))

    def test_kids_leave_out_hidden_ones_themselves(self):
        lines = ["page top", "  part o hidden", "    h1 a", "      p b \"B\"", "      p c \"C\" hidden", "      link d",
                 "        p e \"E\"", "      p f", "  field x by a", "  field y label \"B E\"", "  button z press show:x"]
        same = [line.replace("field", "button") for line in lines]
        same[9] += " press hide:y"
        self.assertEqual(last(page(*same), faulty(2)), found_fault([], 1, 2, "y", "x"))

    def test_the_page_has_an_inner_name_too(self):
        self.assertEqual(last(page("page top label \"All\"", "  field x by top"), faulty(0)), [0])
        self.assertEqual(last(page("page top", "  field x \"X\" by top"), faulty(7)), found_fault([], 1, 7, "x"))
        lines = ["page top", "  link x \"X\" hint top", "  p a \"A\"", "  p b"]
        self.assertEqual(last(page(*lines), faulty(6)), found_fault([], 1, 6, "x", "top"))
        self.assertEqual(last(page(*lines), rules("page page from kids"), faulty(6)), [0])

    def test_order_of_labels(self):
        lines = ["page top", "  p a \"A\"", "  p b \"B\"", "  link x by b a", "  link y label \"%s\" press hide:a"]
        self.assertEqual(last(page(*lines[:4], lines[4] % "B A"), faulty(2)), found_fault([], 1, 2, "y", "x"))
        self.assertEqual(last(page(*lines[:4], lines[4] % "A B"), faulty(2)), [0])

    def test_the_box_itself_may_label_it(self):
        lines = ["page top", "  link x \"Go\" by x a", "  p a \"on\"", "  link y label \"Go on\" press hide:a"]
        self.assertEqual(last(page(*lines), faulty(2)), found_fault([], 1, 2, "y", "x"))


class FaultyTest(unittest.TestCase):
    LINES = [
        "page top", "  h1 t \"Title\"", "  button go \"Go\" press flip:more", "  part more hidden", "    h3 h \"Deep\"",
        "    image pic", "    image pot", "    button deep \"X\" label \"Y\" press flip:last", "  link last hint t hidden",
    ]

    def test_kind(self):
        for kind in (-1, 10, -2, 11, 10 ** 18, -10 ** 18):
            self.assertEqual(said(page(*self.LINES), faulty(kind), SIZE), [[9], [-2], [9, 2, 0, 0]], kind)

    def test_order_of_refusals(self):
        seven = page("page top", *["  check " + letter for letter in "abcdefg"])
        for kind in range(10):
            self.assertEqual(last(seven, faulty(kind)), [-7])
        self.assertEqual(last(seven, faulty(10)), [-2])
        self.assertEqual(last(seven, faulty(-1)), [-2])

    def test_the_first_state_with_such_a_fault(self):
        self.assertEqual(last(page(*self.LINES), faulty(0)), found_fault(["go"], 4, 3, "h"))
        self.assertEqual(last(page(*self.LINES), faulty(1)), found_fault(["go"], 2, 1, "pic"))
        self.assertEqual(last(page(*self.LINES), faulty(4)), found_fault(["go"], 1, 4, "deep"))
        self.assertEqual(last(page(*self.LINES), faulty(9)), [0])

    def test_from_the_state_at_first(self):
        self.assertEqual(said(page(*self.LINES), press("go"), faulty(3), SIZE, WAY),
                         [[9], [1, 0], found_fault(["go"], 1, 3, "h"), [9, 1, 0, 4], [1] + row("go")])

    def test_clean_page(self):
        for kind in range(10):
            self.assertEqual(last(page("page top", "  p a \"A\""), faulty(kind)), [0])
            self.assertEqual(last(faulty(kind)), [0])

    def test_box_by_box_then_kind_by_kind(self):
        lines = ["page top", "  field a \"T\" by b hint b", "  p b", "  h3 c"]
        # a: 1, 4, 6, 7; c: 1, 3
        self.assertEqual(last(page(*lines), faulty(0)), found_fault([], 6, 1, "a"))
        self.assertEqual(last(page(*lines), faulty(1)), found_fault([], 2, 1, "a"))
        self.assertEqual(last(page(*lines), faulty(6)), found_fault([], 1, 6, "a", "b"))
        lines[1] += " hidden"
        self.assertEqual(last(page(*lines), faulty(0)), found_fault([], 2, 1, "c"))
        lines[3] = "  h3 c \"C\""
        self.assertEqual(last(page(*lines), faulty(0)), found_fault([], 1, 3, "c"))

    def test_the_row_has_all_presses(self):
        lines = ["page top", "  button a \"A\" press show:b", "  button b \"B\" hidden press show:c", "  image c hidden"]
        self.assertEqual(last(page(*lines), faulty(1)), found_fault(["a", "b"], 1, 1, "c"))

    def test_rules_of_now(self):
        lines = ["page top", "  image a"]
        self.assertEqual(said(page(*lines), faulty(1), rules("image image from label"), faulty(1), rules("page x whole"),
                              faulty(1))[1:],
                         [found_fault([], 1, 1, "a"), [4], found_fault([], 1, 1, "a"), [4], [0]])


class SizeTest(unittest.TestCase):
    def test_size(self):
        lines = ["page top", "  check a press flip:b", "  part b hidden", "    image c", "    check d hidden on"]
        self.assertEqual(said(page(*lines), SIZE, press("a"), SIZE, press("a"), SIZE),
                         [[5], [5, 2, 1, 1], [1, 2], [5, 1, 2, 2], [2, 1], [5, 2, 1, 1]])

    def test_too_many_states_are_no_matter(self):
        self.assertEqual(last(page("page top", *["  check %s on" % letter for letter in "abcdefgh"]), SIZE), [9, 0, 8, 8])


if __name__ == "__main__":
    unittest.main()
