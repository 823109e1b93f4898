"""The interface: the form of what is handed in and given back, and the document's example."""

import unittest

from lines import DEAD, RESET, SIZE, SPEAKS, STATES, TRAP, UNSEEN, WAY, faulty, found_fault, found_news, found_trap, news
from lines import page, press, reach, row, rules, said, split_answers, told
from pagestates.pages import answers

EXAMPLE = [
    "page top", "  button save \"Save\" press show:done", "  live news", "    p done \"Saved\" hidden",
    "  button ask \"Ask\" press show:sure", "  modal sure hidden", "    p q \"Really\"", "  image pic",
]


class NeverChanged(list):
    """A list that doesn't let itself be changed."""

    def refuse(self, *given, **named):
        raise AssertionError("what is handed in is changed")

    append = extend = insert = pop = remove = clear = sort = reverse = refuse
    __setitem__ = __delitem__ = __iadd__ = __imul__ = refuse


def joined(*calls):
    return [number for call in calls for number in call]


# Each of the fourteen calls, and refusals between them.
EVERY_CALL = joined(page(*EXAMPLE), rules("page page focus"), told("save"), press("ask"), press("x"), press("q"), press("save"),
                    told("x"), SIZE, WAY, STATES, faulty(0), faulty(-1), reach("q"), reach("x"), TRAP, DEAD, UNSEEN, SPEAKS,
                    told("save"), RESET, page("page"), rules("page"), told("q"), SIZE)
SAVED = ("news", "done", "text \"Saved\"")


class ExampleTest(unittest.TestCase):
    def test_example(self):
        calls = [page(*EXAMPLE), STATES, TRAP, told("save"), faulty(0), reach("q"), SPEAKS, press("save"), press("ask"), WAY, SIZE]
        self.assertEqual(said(*calls), [
            [8], [4, 2], found_trap(["ask"], "sure"), news(SAVED), found_fault([], 1, 1, "pic"), [1] + row("ask"),
            found_news([], "save", SAVED), [1, 0], [0, 0], [1] + row("save", "ask"), [8, 0, 0, 2],
        ])

    def test_example_number_by_number(self):
        saved = [4, 110, 101, 119, 115, 4, 100, 111, 110, 101, 12, 116, 101, 120, 116, 32, 34, 83, 97, 118, 101, 100, 34]
        self.assertEqual(answers(joined(page(*EXAMPLE), [8], [11, 4, 115, 97, 118, 101], [12], [9], [10])), joined(
            [1, 8], [11, 1, 1, 3, 97, 115, 107, 4, 115, 117, 114, 101], [24, 1] + saved,
            [31, 1, 0, 4, 115, 97, 118, 101, 1] + saved, [1, 0], [1, 0],
        ))

    def test_all_fourteen_calls(self):
        self.assertEqual(split_answers(answers(EVERY_CALL)), [
            [8], [5], news(SAVED), [1, 0], [-3], [-5], [-6], [-3], [8, 1, 0, 3], [1] + row("ask"), [4, 2],
            found_fault([], 2, 1, "top"), [-2], [1] + row("ask"), [-3], found_trap(["ask"], "sure"), row(), row(),
            found_news([], "save", SAVED), [-6], [2], [-1], [-1], [-5], [8, 2, 0, 2],
        ])


class FormTest(unittest.TestCase):
    def test_number_by_number(self):
        calls = joined(page("page top", "  check ab"), [2, 2, 97, 98], [5], [6, 1], [6, 10], [13])
        self.assertEqual(answers(calls), [1, 2, 2, 0, 1, 5, 1, 1, 2, 97, 98, 8, 1, 0, 1, 1, 2, 97, 98, 0, 1, -2, 4, 2, 0, 1, 1])

    def test_texts_of_no_bytes(self):
        self.assertEqual(answers([0, 0, 1, 0, 2, 0, 7, 0, 11, 0, 13]), [1, -1, 1, -1, 1, -3, 1, -3, 1, -3, 4, 1, 0, 0, 0])

    def test_any_call_may_be_first(self):
        self.assertEqual(answers([3]), [1, 0])
        self.assertEqual(answers([4]), [2, 1, 0])
        self.assertEqual(answers([5]), [2, 1, 0])
        self.assertEqual(answers([6, 0]), [1, 0])
        self.assertEqual(answers([7, 3, 116, 111, 112]), [2, 1, 0])
        self.assertEqual(answers([8]), [1, 0])
        self.assertEqual(answers([9]), [1, 0])
        self.assertEqual(answers([10]), [1, 0])
        self.assertEqual(answers([11, 3, 116, 111, 112]), [1, -5])
        self.assertEqual(answers([11, 1, 97]), [1, -3])
        self.assertEqual(answers([12]), [1, 0])
        self.assertEqual(answers([13]), [4, 1, 0, 0, 0])

    def test_long_texts(self):
        for byte in (32, 34, 97, 10, 255):
            text = [byte] * 4000
            self.assertEqual(answers([0, 4000] + text + [1, 4000] + text + [2, 4000] + text + [7, 4000] + text),
                             [1, -1, 1, -1, 1, -3, 1, -3])
            self.assertEqual(answers([11, 4000] + text + [13]), [1, -3, 4, 1, 0, 0, 0])

    def test_whole_numbers_alone(self):
        given = answers(EVERY_CALL)
        self.assertIs(type(given), list)
        self.assertEqual({type(number) for number in given}, {int})

    def test_twenty_five_calls(self):
        self.assertEqual(answers([4] * 25), [2, 1, 0] * 25)
        self.assertEqual(answers([12] * 25), [1, 0] * 25)

    def test_what_is_handed_in_stays(self):
        calls = NeverChanged(EVERY_CALL)
        answers(calls)
        self.assertEqual(list(calls), EVERY_CALL)

    def test_nothing_is_kept(self):
        first = answers(list(EVERY_CALL))
        self.assertEqual(answers(list(EVERY_CALL)), first)
        self.assertEqual(answers([13, 4]), [4, 1, 0, 0, 0, 2, 1, 0])
        first.clear()
        self.assertNotEqual(answers(list(EVERY_CALL)), [])


if __name__ == "__main__":
    unittest.main()
