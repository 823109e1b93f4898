"""Promises 12 and 13: told and speaks, and what's said of a box."""

import unittest

from lines import RESET, SIZE, SPEAKS, STATES, WAY, found_news, last, news, page, press, row, rules, said, told

LONG = "abcdefghij 012345678"


class WordsTest(unittest.TestCase):
    """What's said of a box, heard by showing a part in a live box with the box in it."""

    def said_of(self, ident, lines, changed=()):
        heard = ["page top", "  button go press show:z", "  live l", "    part z hidden"] + ["      " + line for line in lines]
        answer = last(page(*heard), rules(*changed), told("go"))
        self.assertGreater(answer[0], 0)
        texts = []
        at = 1
        while at < len(answer):
            texts.append(bytes(answer[at + 1:at + 1 + answer[at]]).decode())
            at += 1 + answer[at]
        self.assertEqual(len(texts), 3 * answer[0])
        self.assertEqual(set(texts[0::3]), {"l"})
        return dict(zip(texts[1::3], texts[2::3])).get(ident)

    def hears(self, text, *lines, changed=()):
        self.assertEqual(self.said_of("x", lines, changed), text, lines)

    def test_role_alone(self):
        roles = {"link": "link", "button": "button", "field": "field", "image": "image", "part": "part", "p": "text",
                 "list": "list", "table": "table", "modal": "modal"}
        for kind, role in roles.items():
            self.hears(role, kind + " x")

    def test_role_of_the_rules(self):
        self.hears("words \"A\"", "p x \"A\"", changed=["p words from text"])
        self.hears("words", "p x", changed=["p words focus from text"])

    def test_levels(self):
        self.hears("heading 1 \"A b\"", "h1 x \"A b\"")
        self.hears("heading 2", "h2 x")
        self.hears("title 3 \"A\"", "h3 x label \"A\"", changed=["h3 title from label"])

    def test_rows_items_and_cells(self):
        lines = ["table t", "  row r", "    th x \"A\"", "    cell c \"B\""]
        self.hears("head \"A\"", *lines)
        self.hears("row", *[line.replace("row r", "row x").replace("th x", "th y") for line in lines])
        self.hears("cell \"B\"", *[line.replace("th x", "th y").replace("cell c", "cell x") for line in lines])
        self.hears("item \"A\" text \"B\"", "list y", "  item x \"B\" label \"A\"")

    def test_names(self):
        self.hears("button \"A\"", "button x \"A\"")
        self.hears("button \"B\"", "button x \"A\" label \"B\"")
        self.hears("button \"C D\"", "button x \"A\" label \"B\" by c d", "p c \"C\"", "p d \"D\" hidden")
        self.hears("button \"D C\"", "button x by d e c", "p c \"C\"", "p d \"D\"", "p e")
        self.hears("button \"X C\"", "button x \"X\" by x c", "p c \"C\"")
        self.hears("button \"C D\"", "button x", "  p c \"C\"", "  p h \"H\" hidden", "  part e", "  p d \"D\"")
        self.hears("button \"C\"", "button x hint c", "p c \"C\"")
        self.hears("part", "part x by c", "p c")
        self.hears("button \"" + LONG + "\"", "button x \"" + LONG + "\"")

    def test_the_page_is_in_no_box(self):
        lines = ["page top label \"T\"", "  button go press show:x", "  live l", "    button x hidden"]
        self.assertEqual(last(page(*lines), told("go")), news(("l", "x", "button")))

    def test_off(self):
        self.hears("button off", "button x off")
        self.hears("text \"A\" off", "p x \"A\" off")
        self.hears("heading 2 \"A\" off", "h2 x \"A\" off")

    def test_checks(self):
        self.hears("check \"A\" on", "check x \"A\" on")
        self.hears("check \"A\" not on", "check x \"A\"")
        self.hears("check off on", "check x off on")
        self.hears("check off not on", "check x off")
        self.hears("switch not on", "check x", changed=["check switch"])

    def test_hints(self):
        self.hears("button \"A\" hint \"C\"", "button x \"A\" hint c", "p c \"C\"")
        self.hears("button \"A\" hint \"C\"", "button x \"A\" hint c", "p c \"C\" hidden")
        self.hears("button \"A\" hint \"A\"", "button x \"A\" hint c", "p c \"A\"")
        self.hears("button \"A\" hint \"A\"", "button x \"A\" hint x")
        self.hears("button \"A\"", "button x \"A\" hint c", "p c")
        self.hears("button", "button x hint c", "p c")
        self.hears("part hint \"C\"", "part x hint c", "p c \"C\"")
        self.hears("part \"A\" hint \"C D\"", "part x label \"A\" hint h", "h1 h", "  p c \"C\"", "  p d \"D\"")

    def test_a_hint_that_the_name_comes_from(self):
        self.hears("button \"C\"", "button x hint c", "p c \"C\"")
        self.hears("field \"C\" text \"A\"", "field x \"A\" hint c", "p c \"C\"")
        self.hears("button \"A\" hint \"C\"", "button x \"A\" by d hint c", "p c \"C\"", "p d")
        self.hears("part \"C\"", "part x label \"A\" hint c", "p c \"C\"", changed=["part part from hint label"])

    def test_text_besides(self):
        self.hears("part text \"A\"", "part x \"A\"")
        self.hears("part \"B\" text \"A\"", "part x \"A\" label \"B\"")
        self.hears("field \"B\" text \"A\"", "field x \"A\" label \"B\"")
        self.hears("field \"A\" text \"A\"", "field x \"A\" label \"A\"")
        self.hears("field text \"A\"", "field x \"A\"")
        self.hears("text text \"A\"", "p x \"A\"", changed=["p text"])

    def test_no_text_besides(self):
        self.hears("text \"A\"", "p x \"A\"")
        self.hears("button \"B\"", "button x \"A\" label \"B\"")
        self.hears("image", "image x \"A\"")
        self.hears("image text \"A\"", "image x \"A\"", changed=["image image from by label"])
        self.hears("button \"B\" text \"A\"", "button x \"A\" label \"B\"", changed=["button button focus from by label text"])
        self.hears("button \"A\"", "button x \"A\"", changed=["button button focus from by label text"])
        self.hears("text", "p x \"A\"", changed=["p text whole"])

    def test_all_words_in_order(self):
        self.hears("check \"B\" off on hint \"C\" text \"A\"", "check x \"A\" label \"B\" hint c off on", "p c \"C\"",
                   changed=["check check focus from by label text kids"])
        self.hears("heading 3 \"B\" off hint \"C\" text \"A\"", "h3 x \"A\" label \"B\" hint c off", "p c \"C\"",
                   changed=["h3 heading from label"])

    def test_order_of_focus_is_not_said(self):
        self.hears("button \"A\"", "button x \"A\" order 1")

    def test_what_stands_in_a_whole_box_is_not_said_by_itself(self):
        self.hears(None, "h1 y", "  p x \"A\"")
        self.hears(None, "button y", "  part w", "    p x \"A\"")
        self.hears("text \"A\"", "h1 y", "  p x \"A\"", changed=["h1 heading from by label text kids"])
        self.hears(None, "part y", "  p x \"A\"", changed=["part part whole"])

    def test_hidden_boxes_are_not_said(self):
        self.hears(None, "p x \"A\" hidden")
        self.hears(None, "part y hidden", "  p x \"A\"")


class ToldTest(unittest.TestCase):
    def told(self, ident, *lines, changed=()):
        return last(page(*lines), rules(*changed), told(ident))

    def test_no_box(self):
        for ident in ("", "b", "aa", "A", "a ", "press", "?", "\xff", "a" * 4000):
            self.assertEqual(last(page("page top", "  check a"), told(ident)), [-3], ident)
        self.assertEqual(last(told("a")), [-3])

    def test_does_nothing(self):
        lines = ["page top", "  button a", "  p b hidden off", "  link c off", "  field d", "  modal e hidden"]
        for ident in ("top", "a", "b", "c", "d", "e"):
            self.assertEqual(self.told(ident, *lines), [-5], ident)
        self.assertEqual(last(told("top")), [-5])

    def test_cannot_be_pressed(self):
        lines = ["page top", "  check a off", "  check b hidden", "  part c hidden", "    button d press hide:a", "  check e",
                 "  modal m", "    check f"]
        for ident in ("a", "b", "d", "e"):
            self.assertEqual(self.told(ident, *lines), [-6], ident)
        self.assertEqual(self.told("f", *lines), news())

    def test_too_many_states_are_no_matter(self):
        lines = ["page top"] + ["  check " + letter for letter in "abcdefg"] + ["  live l", "    check h"]
        self.assertEqual(said(page(*lines), STATES, told("h")), [[10], [-7], news(("l", "h", "check on"))])

    def test_outside_of_live_boxes_nothing_is_told(self):
        self.assertEqual(self.told("a", "page top", "  check a press show:b", "  p b \"B\" hidden", "  live l", "    p c \"C\""), news())

    def test_shown(self):
        lines = ["page top", "  button a press show:c", "  live b", "    p c \"C\" hidden", "    p d \"D\""]
        self.assertEqual(self.told("a", *lines), news(("b", "c", "text \"C\"")))
        lines = ["page top", "  button a press show:c", "  live b", "    part c hidden", "      p d \"D\""]
        self.assertEqual(self.told("a", *lines), news(("b", "c", "part"), ("b", "d", "text \"D\"")))

    def test_shown_already(self):
        lines = ["page top", "  button a press show:c", "  button b press hide:c flip:c", "  live l", "    p c \"C\""]
        self.assertEqual(self.told("a", *lines), news())
        self.assertEqual(self.told("b", *lines), news())

    def test_shown_in_what_stays_hidden(self):
        lines = ["page top", "  button a press show:d", "  live b", "    part c hidden", "      p d \"D\" hidden"]
        self.assertEqual(self.told("a", *lines), news())

    def test_no_longer_said(self):
        lines = ["page top", "  button a press hide:c", "  live b", "    p c \"C\"", "    part d"]
        self.assertEqual(self.told("a", *lines), news())

    def test_one_goes_and_one_comes(self):
        lines = ["page top", "  button a press hide:c show:d", "  live b", "    p c \"C\"", "    p d \"C\" hidden"]
        self.assertEqual(self.told("a", *lines), news(("b", "d", "text \"C\"")))

    def test_a_live_box_hidden_before(self):
        lines = ["page top", "  button a press show:b", "  live b hidden", "    p c \"C\""]
        self.assertEqual(self.told("a", *lines), news())
        lines = ["page top", "  button a press show:b show:c", "  live b hidden", "    p c \"C\" hidden"]
        self.assertEqual(self.told("a", *lines), news())
        lines = ["page top", "  button a press show:b show:d", "  part b hidden", "    live c", "      p d \"D\" hidden"]
        self.assertEqual(self.told("a", *lines), news())

    def test_a_live_box_hidden_after(self):
        lines = ["page top", "  button a press hide:b show:c", "  live b", "    p c \"C\" hidden"]
        self.assertEqual(self.told("a", *lines), news())
        lines = ["page top", "  button a press hide:b show:d", "  part b", "    live c", "      p d \"D\" hidden"]
        self.assertEqual(self.told("a", *lines), news())
        self.assertEqual(self.told("a", "page top", "  button a press hide:top", "  live b", "    p c"), news())

    def test_hidden_in_between(self):
        lines = ["page top", "  button a press hide:b show:c show:b", "  live b", "    p c \"C\" hidden"]
        self.assertEqual(self.told("a", *lines), news(("b", "c", "text \"C\"")))

    def test_live_boxes_in_one_another(self):
        lines = ["page top", "  button a press show:c show:f show:g", "  live b", "    p c \"C\" hidden", "    live d",
                 "      part e", "        p f \"F\" hidden", "    p g \"G\" hidden"]
        self.assertEqual(self.told("a", *lines), news(("b", "c", "text \"C\""), ("d", "f", "text \"F\""), ("b", "g", "text \"G\"")))

    def test_an_inner_live_box_that_is_shown(self):
        """Neither it nor what is in it is told: it's the innermost one, and wasn't visible before."""
        lines = ["page top", "  button a press show:c show:e", "  live b", "    live c hidden", "      p d \"D\"",
                 "    p e \"E\" hidden"]
        self.assertEqual(self.told("a", *lines), news(("b", "e", "text \"E\"")))

    def test_an_inner_live_box_that_is_hidden(self):
        lines = ["page top", "  button a press hide:c show:d show:e", "  live b", "    live c", "      p d \"D\" hidden",
                 "    p e \"E\" hidden"]
        self.assertEqual(self.told("a", *lines), news(("b", "e", "text \"E\"")))

    def test_a_live_box_itself(self):
        lines = ["page top", "  button a press show:d", "  h1 c", "    p d \"D\" hidden", "  live b by c"]
        self.assertEqual(self.told("a", *lines), news(("b", "b", "live \"D\"")))
        nested = ["page top", "  button a press show:d", "  h1 c", "    p d \"D\" hidden", "  live e", "    live b by c"]
        self.assertEqual(self.told("a", *nested), news(("b", "b", "live \"D\"")))

    def test_a_name_changes(self):
        lines = ["page top", "  button a press hide:d show:e", "  live b", "    h2 c", "      p d \"D\"", "      p e \"E\" hidden"]
        self.assertEqual(self.told("a", *lines), news(("b", "c", "heading 2 \"E\"")))
        lines = ["page top", "  button a press hide:d", "  live b", "    h2 c", "      p d \"D\""]
        self.assertEqual(self.told("a", *lines), news(("b", "c", "heading 2")))
        lines = ["page top", "  h2 c", "    p d \"D\"", "  button a press hide:d", "  live b", "    field e label \"F\" by c"]
        self.assertEqual(self.told("a", *lines), news(("b", "e", "field \"F\"")))

    def test_a_hint_changes(self):
        lines = ["page top", "  button a press show:d", "  h1 c", "    p d \"D\" hidden", "  live b",
                 "    part e label \"E\" hint c"]
        self.assertEqual(self.told("a", *lines), news(("b", "e", "part \"E\" hint \"D\"")))

    def test_a_text_besides_changes(self):
        """Its own text is its name until another source gives something."""
        lines = ["page top", "  button a press flip:d", "  live b", "    part c \"C\"", "      p d \"D\" hidden"]
        changed = ["part part from kids text"]
        self.assertEqual(self.told("a", *lines, changed=changed),
                         news(("b", "c", "part \"D\" text \"C\""), ("b", "d", "text \"D\"")))
        back = [page(*lines), rules(*changed), press("a"), told("a")]
        self.assertEqual(last(*back), news(("b", "c", "part \"C\"")))

    def test_on_changes(self):
        lines = ["page top", "  live b", "    check c \"C\"", "    check d on"]
        self.assertEqual(self.told("c", *lines), news(("b", "c", "check \"C\" on")))
        self.assertEqual(self.told("d", *lines), news(("b", "d", "check not on")))
        self.assertEqual(last(page(*lines), press("c"), told("c")), news(("b", "c", "check \"C\" not on")))

    def test_a_check_that_is_not_said_by_itself(self):
        self.assertEqual(self.told("d", "page top", "  live b", "    h1 c \"C\"", "      check d"), news())

    def test_a_live_box_in_a_whole_box(self):
        lines = ["page top", "  h1 h \"H\"", "    live b", "      p c \"C\" hidden", "  button a press show:c"]
        self.assertEqual(self.told("a", *lines), news())
        self.assertEqual(self.told("a", *lines, changed=["h1 heading from text"]), news(("b", "c", "text \"C\"")))

    def test_a_whole_live_box(self):
        lines = ["page top", "  button a press show:c", "  live b", "    p c \"C\" hidden"]
        self.assertEqual(self.told("a", *lines, changed=["live live whole from label"]), news())
        self.assertEqual(self.told("a", *lines, changed=["live live whole from kids"]), news(("b", "b", "live \"C\"")))

    def test_the_kind_is_asked_not_the_role(self):
        lines = ["page top", "  button a press show:c show:e", "  live b", "    p c \"C\" hidden", "  part d", "    p e hidden"]
        self.assertEqual(self.told("a", *lines, changed=["live part", "part live"]), news(("b", "c", "text \"C\"")))

    def test_behind_a_modal(self):
        lines = ["page top", "  live b", "    p c \"C\" hidden", "  modal m label \"M\"", "    button a press show:c"]
        self.assertEqual(self.told("a", *lines), news(("b", "c", "text \"C\"")))

    def test_a_modal_in_a_live_box(self):
        lines = ["page top", "  button a press show:m", "  live b", "    modal m label \"M\" hidden", "      p c \"C\""]
        self.assertEqual(self.told("a", *lines), news(("b", "m", "modal \"M\""), ("b", "c", "text \"C\"")))

    def test_the_rules_as_they_are(self):
        lines = ["page top", "  button a press show:c", "  live b", "    p c \"C\" hidden"]
        self.assertEqual(said(page(*lines), told("a"), rules("p words"), told("a"), rules(), told("a"))[1:],
                         [news(("b", "c", "text \"C\"")), [4], news(("b", "c", "words text \"C\"")), [4],
                          news(("b", "c", "text \"C\""))])

    def test_from_the_state_as_it_is(self):
        lines = ["page top", "  button a press show:d", "  button b press show:e", "  live c", "    p d \"D\" hidden",
                 "      p e \"E\" hidden"]
        first = news(("c", "d", "text \"D\""))
        self.assertEqual(said(page(*lines), told("a"), told("b"), press("b"), told("a"), press("a"), told("a"), RESET, told("a"))[1:],
                         [first, news(), [1, 0], news(("c", "d", "text \"D\""), ("c", "e", "text \"E\"")), [0, 0], news(), [2], first])

    def test_it_is_not_pressed(self):
        lines = ["page top", "  check a press show:c show:m", "  live b", "    p c \"C\" hidden", "  modal m hidden"]
        heard = news(("b", "c", "text \"C\""))
        self.assertEqual(said(page(*lines), told("a"), SIZE, WAY, told("a"), press("a"), WAY, told("a")),
                         [[5], heard, [5, 2, 0, 1], [1, 0], heard, [0, 1], [1] + row("a"), [-6]])

    def test_a_refusal_leaves_everything(self):
        lines = ["page top", "  check a press hide:b", "  check b", "  p c"]
        self.assertEqual(said(page(*lines), press("a"), told("b"), told("c"), told("d"), SIZE, WAY),
                         [[4], [1, 1], [-6], [-5], [-3], [4, 1, 1, 1], [1] + row("a")])


class SpeaksTest(unittest.TestCase):
    def speaks(self, *lines, changed=()):
        return last(page(*lines), rules(*changed), SPEAKS)

    def test_nothing_is_told(self):
        self.assertEqual(last(SPEAKS), [0])
        self.assertEqual(self.speaks("page top", "  check a", "  live b", "    p c \"C\""), [0])
        self.assertEqual(self.speaks("page top", "  button a press show:b", "  live b hidden", "    p c \"C\""), [0])
        self.assertEqual(self.speaks("page top", "  button a off press show:c", "  live b", "    p c \"C\" hidden"), [0])

    def test_at_first(self):
        lines = ["page top", "  button a press show:c", "  live b", "    p c \"C\" hidden"]
        self.assertEqual(self.speaks(*lines), found_news([], "a", ("b", "c", "text \"C\"")))

    def test_the_first_box_that_speaks(self):
        lines = ["page top", "  check a", "  button b press show:e", "  button c press show:f", "  live d",
                 "    p e \"E\" hidden", "    p f \"F\" hidden"]
        self.assertEqual(self.speaks(*lines), found_news([], "b", ("d", "e", "text \"E\"")))

    def test_several_boxes(self):
        lines = ["page top", "  button a press show:c show:e", "  live b", "    p c \"C\" hidden", "  live d", "    p e \"E\" hidden"]
        self.assertEqual(self.speaks(*lines), found_news([], "a", ("b", "c", "text \"C\""), ("d", "e", "text \"E\"")))

    def test_in_a_later_state(self):
        lines = ["page top", "  button a press show:b", "  button b hidden press show:c", "  button c hidden press show:e",
                 "  live d", "    p e \"E\" hidden"]
        self.assertEqual(self.speaks(*lines), found_news(["a", "b"], "c", ("d", "e", "text \"E\"")))

    def test_the_first_state_found(self):
        """The state after b comes ahead of that after a, c, though both speak with one press more."""
        lines = ["page top", "  button a press show:c", "  button b press show:d", "  button c hidden press show:e",
                 "  button d hidden press show:f", "  live l", "    p e \"E\" hidden", "    p f \"F\" hidden"]
        self.assertEqual(self.speaks(*lines), found_news(["a"], "c", ("l", "e", "text \"E\"")))
        lines[1] = "  button a press show:x"
        lines[3] = "  button x hidden press show:c"
        lines.append("  button c hidden press show:e")
        self.assertEqual(self.speaks(*lines), found_news(["b"], "d", ("l", "f", "text \"F\"")))

    def test_a_press_back_to_a_state_found_before(self):
        """What speaks is the press, though the state that it leads to isn't a new one."""
        lines = ["page top", "  button a press flip:d", "  live c", "    p d \"D\""]
        self.assertEqual(self.speaks(*lines), found_news(["a"], "a", ("c", "d", "text \"D\"")))

    def test_in_a_modal(self):
        lines = ["page top", "  button a press show:m", "  button b off press show:d", "  modal m hidden",
                 "    button e press show:d", "  live c", "    p d \"D\" hidden"]
        self.assertEqual(self.speaks(*lines), found_news(["a"], "e", ("c", "d", "text \"D\"")))

    def test_checks(self):
        self.assertEqual(self.speaks("page top", "  check z", "  live a", "    check b"), found_news([], "b", ("a", "b", "check on")))

    def test_the_rules_as_they_are(self):
        lines = ["page top", "  button a press show:d", "  live b", "    h1 c", "      p d \"D\" hidden"]
        self.assertEqual(self.speaks(*lines), found_news([], "a", ("b", "c", "heading 1 \"D\"")))
        self.assertEqual(self.speaks(*lines, changed=["h1 heading whole"]), [0])
        self.assertEqual(self.speaks(*lines, changed=["h1 heading"]), found_news([], "a", ("b", "d", "text \"D\"")))

    def test_from_the_state_at_first(self):
        lines = ["page top", "  button a press show:c", "  live b", "    p c \"C\" hidden"]
        self.assertEqual(said(page(*lines), press("a"), SPEAKS, SIZE, WAY)[2:],
                         [found_news([], "a", ("b", "c", "text \"C\"")), [4, 0, 0, 1], [1] + row("a")])


if __name__ == "__main__":
    unittest.main()
