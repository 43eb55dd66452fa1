"""The interface: one list of numbers in, one list of numbers out."""

import contextlib
import io
import unittest

from leastfare.fares import answers
from tests.helper import HUGE, ask, begin, buy, chain, close, fare, line, price


class Interface(unittest.TestCase):
    def calls(self):
        legs = chain([1, 2, 3])
        return line([begin(HUGE), begin(10), fare(1, 2, price=40), fare(2, 3, price=50), fare(300), ask(legs),
                     buy(legs, now=7), price(1, 60), ask(legs, off=50), ask([]), close(0), close(0), ask(legs)])

    def test_how_many_numbers_then_these(self):
        self.assertEqual(answers(self.calls()), [
            1, -22, 1, 0, 1, 0, 1, 1, 1, -22, 5, 90, 0, 1, 1, 1,
            2, 0, 90, 1, 0, 5, 50, 0, 1, 1, 1, 1, -22, 1, 0, 1, -2, 1, -33,
        ])

    def test_written_out(self):
        calls = [0, 5, 1, 10, 20, 255, 250, 0, 1439, 100, 0,
                 4, 10, 0, 4, 10, 20, 30, 40, 5, 0, 0, 30, 4, 10, 20, 30, 40]
        self.assertEqual(answers(calls), [1, 0, 1, 0, 3, 225, 0, 1, 2, 0, 250])

    def test_empty_and_longest_rows_are_read_to_their_end(self):
        calls = line([begin(), fare(1, 1), ask([]), ask(chain([1] * 21)), buy([]), buy(chain([1] * 21)),
                      ask(chain([1, 1]))])
        self.assertEqual(answers(calls), [1, 0, 1, 0, 1, -22, 1, -22, 1, -22, 1, -22, 3, 1000, 0, 1])

    def test_what_is_handed_in_stays(self):
        calls = self.calls()
        copy = list(calls)
        answers(calls)
        self.assertEqual(calls, copy)

    def test_nothing_is_kept(self):
        first = answers(self.calls())
        answers(line([begin(3)] + [fare()] * 64))
        self.assertEqual(answers(self.calls()), first)
        self.assertIsNot(answers([0, 0]), answers([0, 0]))

    def test_only_whole_numbers_in_a_list(self):
        answered = answers(self.calls())
        self.assertIs(type(answered), list)
        self.assertEqual({type(number) for number in answered}, {int})

    def test_3000_calls(self):
        self.assertEqual(answers([0, 1] * 3000), [1, 0] * 3000)
        self.assertEqual(answers([0, 0] + [2, 0] * 2999), [1, 0] + [1, -2] * 2999)

    def test_prints_nothing(self):
        out = io.StringIO()
        with contextlib.redirect_stdout(out), contextlib.redirect_stderr(out):
            answers(self.calls())
        self.assertEqual(out.getvalue(), "")


if __name__ == "__main__":
    unittest.main()
