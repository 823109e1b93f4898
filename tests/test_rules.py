"""Promise 2: rules."""

import unittest

from lines import RULES_AT_FIRST, SIZE, WAY, ended, faulty, found_fault, last, page, press, row, rules, rules_text, said


class RulesTest(unittest.TestCase):
    def refused(self, text):
        self.assertEqual(last(rules_text(text)), [-1], text)

    def one_rule(self, line, many):
        """The rules at first with another first line."""
        self.assertEqual(last(rules_text(ended([line] + RULES_AT_FIRST[1:]))), [many], line)

    def test_how_many_take_the_focus(self):
        self.assertEqual(last(rules()), [4])
        self.assertEqual(last(rules("page page focus")), [5])
        self.assertEqual(last(rules("link a", "button a", "field a", "check a")), [0])
        every = [line.split()[0] + " x focus whole" for line in RULES_AT_FIRST]
        self.assertEqual(last(rules_text(ended(every))), [19])

    def test_forms_of_a_rule(self):
        for line in ("page a", "page abcdefgh", "page page", "page label", "page kids whole", "page by from by",
                     "page x from by label text kids hint", "page x from hint kids text label by", "page x whole from kids"):
            self.one_rule(line, 4)
        for line in ("page a focus", "page focusx focus", "page a focus whole from hint"):
            self.one_rule(line, 5)

    def test_wrong_rules(self):
        for line in ("", "page", "page ", " page a", "page  a", "page a ", "part a", "Page a", "page A", "page a1",
                     "page abcdefghi", "page focus", "page whole", "page from", "page focus focus", "page a whole focus",
                     "page a focus focus", "page a from", "page a from ", "page a from by by", "page a from by label by",
                     "page a from role", "page a from by focus", "page a by", "page a from  by", "page a from by ",
                     "page a from by from label", "page a from \"by\"", "page \"a\"", "page a\tfocus", "page a from By",
                     "page a from by,label", "page \xe4", "page a Focus", "page a from by\n"):
            self.one_rule(line, -1)

    def test_one_line_for_each_kind_in_order(self):
        lines = RULES_AT_FIRST
        self.refused("")
        self.refused("\n")
        self.refused(ended(lines)[:-1])
        self.refused(ended(lines) + "\n")
        self.refused("\n" + ended(lines))
        self.refused(ended(lines[:-1]))
        self.refused(ended(lines[1:]))
        self.refused(ended(lines + lines[-1:]))
        self.refused(ended(lines[:1] + lines[:1] + lines[2:]))
        self.refused(ended([lines[1], lines[0]] + lines[2:]))
        self.refused(ended(lines).replace("\n", "\r\n"))

    def test_the_rules_at_first(self):
        """Whatever the state of things, these rules' text changes nothing at first."""
        lines = [
            "page top by t hint t", "  h1 t label \"T\"", "    button b \"B\"", "  h3 h", "    p k \"K\"",
            "  link l hint t", "  field f hint e", "  check c \"C\" label \"D\"", "  table g", "    row r", "      th q",
            "      cell w", "  image i \"I\"", "  modal m", "    p e",
        ]
        # button b: 9 (in an h1, said whole); h3 h: 3 (its name K from its kids); link l: its name from its hint;
        # field f: 1 and 6; check c: 4; cell w: its row has a head; image i and modal m: 1.
        for before in ([], [rules()]):
            answers = said(*before, page(*lines), SIZE, *[faulty(kind) for kind in range(10)])[len(before):]
            self.assertEqual(answers, [
                [15], [15, 0, 0, 7], found_fault([], 7, 9, "b"), found_fault([], 3, 1, "f"), [0],
                found_fault([], 1, 3, "h"), found_fault([], 1, 4, "c"), [0], found_fault([], 1, 6, "f", "e"), [0], [0],
                found_fault([], 1, 9, "b"),
            ])

    def test_each_source_at_first(self):
        """A box of each kind labels a field: which of its label, its text and its kids make its inner name."""
        wrap = {"item": ["  list o"], "row": ["  table o"], "cell": ["  table o", "    row u"],
                "th": ["  table o", "    row u"]}
        for kind, sources in (("part", "label"), ("h1", "label text kids"), ("h2", "label text kids"),
                              ("h3", "label text kids"), ("p", "text"), ("link", "label text kids"),
                              ("button", "label text kids"), ("field", "label"), ("check", "label text kids"),
                              ("list", "label"), ("item", "label text"), ("table", "label"), ("row", ""),
                              ("cell", "text"), ("th", "label text kids"), ("image", "label"), ("live", "label"),
                              ("modal", "label")):
            around = wrap.get(kind, [])
            blanks = "  " * (1 + len(around))
            kid = blanks + "  " + {"list": "item", "table": "row", "row": "th"}.get(kind, "p") + " k \"K\""
            for source, box in (("label", " label \"L\""), ("text", " \"T\""), ("kids", "")):
                lines = ["page top"] + around + [blanks + kind + " x" + box]
                lines += [kid] if source == "kids" else []
                answer = last(page(*lines, "  part y by x"), faulty(7))
                self.assertEqual(answer == [0], source in sources.split(), (kind, source))

    def test_rules_leave_page_and_state(self):
        lines = ["page top", "  check a \"A\" press show:b", "  p b hidden"]
        self.assertEqual(said(page(*lines), press("a"), rules("page page focus"), SIZE, WAY),
                         [[3], [0, 1], [5], [3, 0, 1, 1], [1] + row("a")])

    def test_refused_rules_leave_the_rules(self):
        self.assertEqual(said(rules("page page focus"), rules("page focus"), SIZE), [[5], [-1], [1, 0, 0, 1]])

    def test_sources_are_asked_in_their_order(self):
        lines = ["page top", "  button a \"T\" label \"L\"", "  button b \"L\" press hide:a"]
        self.assertEqual(last(page(*lines), faulty(2)), found_fault([], 1, 2, "b", "a"))
        self.assertEqual(last(page(*lines), rules("button button focus from text label"), faulty(2)), [0])


if __name__ == "__main__":
    unittest.main()
