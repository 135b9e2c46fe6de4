"""What all calls have in common: what is given back, what is handed in, and that nothing is kept or printed."""

import contextlib
import io
import unittest

from calls import CALLS
from drawings import Untouched, all_hedges, draw

GARDENS = (
    draw(4, 3, all_hedges(4, 3)),
    draw(4, 3, []),
    draw(4, 3, range(0, 17, 3)),
    draw(3, 4, range(0, 17, 2)),
    draw(10, 10, range(0, 180, 2)),
    draw(10, 10, []),
    draw(1, 1, []),
    draw(1, 2, []),
    draw(10, 1, []),
    [],
    draw(2, 2, []) + [10],
    [43] * 1025,
)


class Interface(unittest.TestCase):

    def test_kinds(self):
        for name, call in CALLS:
            for garden in GARDENS:
                answer = call(garden)
                self.assertIs(type(answer), list, name)
                self.assertGreater(len(answer), 0, name)
                for number in answer:
                    self.assertIs(type(number), int, name)

    def test_a_refusal_is_alone(self):
        for name, call in CALLS:
            for garden in GARDENS:
                answer = call(garden)
                self.assertLessEqual(answer[0], 0, name)
                if answer[0] < 0:
                    self.assertEqual(len(answer), 1, name)

    def test_what_is_handed_in_is_not_changed(self):
        for name, call in CALLS:
            for garden in GARDENS:
                handed = list(garden)
                call(handed)
                self.assertEqual(handed, garden, name)

    def test_what_is_handed_in_is_not_changed_for_a_while(self):
        for name, call in CALLS:
            for garden in GARDENS:
                self.assertEqual(call(Untouched(garden)), call(list(garden)), name)

    def test_a_second_time_gives_the_same(self):
        questions = [(call, garden) for name, call in CALLS for garden in GARDENS]
        first = [call(garden) for call, garden in questions]
        second = [call(garden) for call, garden in reversed(questions)]
        self.assertEqual(first, second[::-1])
        for call, garden in questions:
            self.assertEqual(call(garden), call(garden))

    def test_a_changed_answer_changes_no_later_one_and_no_garden(self):
        for name, call in CALLS:
            for garden in GARDENS:
                handed = list(garden)
                answer = call(handed)
                before = list(answer)
                answer.append(7)
                answer[0] = 99
                self.assertEqual(handed, garden, name)
                self.assertEqual(call(handed), before, name)

    def test_nothing_is_printed(self):
        out, err = io.StringIO(), io.StringIO()
        with contextlib.redirect_stdout(out), contextlib.redirect_stderr(err):
            for name, call in CALLS:
                for garden in GARDENS:
                    call(garden)
        self.assertEqual(out.getvalue() + err.getvalue(), "")


if __name__ == "__main__":
    unittest.main()
