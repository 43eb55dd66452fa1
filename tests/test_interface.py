"""The interface: one list of numbers in, one list of numbers out."""

import contextlib
import io
import time
import unittest

from leastfare.fares import answers
from tests.helper import HUGE, ask, back, begin, books, buy, chain, change, close, fare, line, price, ride, split
from tests.helper import tickets


class Interface(unittest.TestCase):
    def calls(self):
        legs = chain([1, 2, 3])
        return line([begin(HUGE), begin(10), fare(1, 2, price=40), fare(2, 3, price=50), fare(300), ask(legs),
                     buy(legs, now=7), price(1, 60), ask(legs, off=50), ask([]), close(0), close(0), ask(legs),
                     tickets(0), tickets(1), change(0, legs[1:], 8), ride(0, 9), ride(0, 9), back(0, 10),
                     buy(legs[1:], now=11), back(1, 11), change(1, [], 11), books()])

    def test_how_many_numbers_then_these(self):
        self.assertEqual(answers(self.calls()), [
            1, -22, 1, 0, 1, 0, 1, 1, 1, -22, 5, 90, 0, 1, 1, 1,
            2, 0, 90, 1, 0, 5, 50, 0, 1, 1, 1, 1, -22, 1, 0, 1, -2, 1, -33,
            9, 2, 0, 1, 40, 0, 1, 1, 50, 0, 1, -2, 1, 10, 1, 0, 1, -11, 1, 0,
            2, 1, 60, 1, 50, 1, -17, 4, 0, 160, 50, 50,
        ])

    def test_written_out(self):
        calls = [0, 5, 1, 10, 20, 255, 250, 0, 1439, 100, 0,
                 4, 10, 0, 4, 10, 20, 30, 40, 5, 0, 0, 30, 4, 10, 20, 30, 40]
        self.assertEqual(answers(calls), [1, 0, 1, 0, 3, 225, 0, 1, 2, 0, 250])
        calls += [6, 0, 9, 0, 31, 4, 10, 20, 40, 50, 7, 0, 40, 8, 0, 40, 10]
        self.assertEqual(answers(calls)[11:], [5, 1, 0, 1, 250, 0, 1, 5, 1, 0, 1, 0, 4, 0, 255, 0, 5])

    def test_empty_and_longest_rows_are_read_to_their_end(self):
        calls = line([begin(), fare(1, 1), ask([]), ask(chain([1] * 21)), buy([]), buy(chain([1] * 21)),
                      buy(chain([1, 1])), change(0, []), change(0, chain([1] * 21)), change(1, chain([1] * 21)),
                      ask(chain([1, 1]))])
        self.assertEqual(answers(calls), [1, 0, 1, 0, 1, -22, 1, -22, 1, -22, 1, -22, 2, 0, 1000, 1, -22, 1, -22,
                                          1, -2, 3, 1000, 0, 1])

    def test_what_is_handed_in_stays(self):
        calls = self.calls()
        copy = list(calls)
        answers(calls)
        self.assertEqual(calls, copy)

    def test_nothing_is_kept(self):
        first = answers(self.calls())
        answers(line([begin(3)] + [fare()] * 64))
        self.assertEqual(answers(self.calls()), first)
        self.assertIsNot(answers([0, 0]), answers([0, 0]))

    def test_only_whole_numbers_in_a_list(self):
        answered = answers(self.calls())
        self.assertIs(type(answered), list)
        self.assertEqual({type(number) for number in answered}, {int})

    def test_3000_calls(self):
        self.assertEqual(answers([0, 1] * 3000), [1, 0] * 3000)
        self.assertEqual(answers([0, 0] + [2, 0] * 2999), [1, 0] + [1, -2] * 2999)

    def many(self):
        """3,000 calls in not quite 31,000 numbers: 64 sold journeys of 16 legs with as many tickets as they can."""
        legs = chain([5] * 17)
        fares = [fare(5, 5, via=7, price=k) for k in range(63)] + [fare(5, 5, price=3, length=10)]
        calls = [begin(1)] + fares + [buy(legs) for k in range(64)]
        calls += [change(k % 64, legs, 5) for k in range(280)]
        calls += [tickets(k % 64) for k in range(900)] + [ride(k % 64, 6) for k in range(800)]
        calls += [back(k % 64, 7) for k in range(750)]
        return calls + [books()] * (3000 - len(calls))

    def test_3000_calls_of_all_kinds_without_delay(self):
        calls = self.many()
        numbers = line(calls)
        self.assertEqual(len(calls), 3000)
        self.assertTrue(30000 < len(numbers) <= 31000, len(numbers))
        copy = list(numbers)
        before = time.monotonic()
        first = answers(numbers)
        self.assertLess(time.monotonic() - before, 30)
        self.assertLess(len(first), 1000000)
        self.assertEqual(numbers, copy)
        self.assertEqual(answers(numbers), first)
        answered = split(first)
        self.assertEqual(answered[65:129], [[k, 48] for k in range(64)])
        self.assertEqual(answered[129:409], [[1]] * 280)
        self.assertEqual(answered[409:1309], [[16] + [63, 1, 3, 0] * 16] * 900)
        # 12 rides for each, and a thirteenth for the first half of them.
        self.assertEqual(answered[1309:2109], [[15 - k // 64] for k in range(800)])
        self.assertEqual(answered[2109:2859], [[2 * 3]] * 32 + [[2 * 4]] * 32 + [[0]] * 686)
        given = 32 * 6 + 32 * 8
        self.assertEqual(answered[2859:], [[0, 64 * 48 + 280, given, 280 + given // 2]] * 141)

    def test_the_list_stays_while_it_is_gone_through(self):
        class Watched(list):
            """A list that fails where it would be changed."""

            def refuse(self, *told):
                raise AssertionError("the list that was handed in is changed")

            append = extend = insert = pop = remove = clear = sort = reverse = refuse
            __setitem__ = __delitem__ = __iadd__ = __imul__ = refuse

        self.assertEqual(answers(Watched(self.calls())), answers(self.calls()))

    def test_prints_nothing(self):
        out = io.StringIO()
        with contextlib.redirect_stdout(out), contextlib.redirect_stderr(out):
            answers(self.calls())
        self.assertEqual(out.getvalue(), "")


if __name__ == "__main__":
    unittest.main()
