"""Point 9: books."""

import unittest

from tests.helper import END, MONEY, ask, back, begin, books, buy, chain, change, close, fare, price, ride, run, tickets

THREE = chain([1, 2, 3, 4])
LAST = THREE[2:]


class Books(unittest.TestCase):
    def test_after_each_kind_of_call(self):
        told = (
            (begin(MONEY + 1), [-22], None),
            (begin(10), [0], [0, 0, 0]),
            (fare(1, 3, price=100), [0], [0, 0, 0]),
            (fare(3, 4, price=50), [1], [0, 0, 0]),
            (ask(THREE), [150, 0, 2, 1, 1], [0, 0, 0]),
            (buy(THREE), [0, 150], [150, 0, 0]),
            (buy(LAST, off=50), [1, 25], [175, 0, 0]),
            (buy(LAST, off=100), [2, 0], [175, 0, 0]),
            (buy(THREE), [3, 150], [325, 0, 0]),
            (buy([]), [-22], [325, 0, 0]),
            (price(0, 120), [0], [325, 0, 0]),
            (tickets(0), [2, 0, 2, 100, 0, 1, 1, 50, 0], [325, 0, 0]),
            (change(1, THREE), [70], [395, 0, 10]),
            (change(3, LAST), [10], [405, 0, 120]),
            (change(3, LAST, END), [-4], [405, 0, 120]),
            (ride(0, 600), [2], [405, 0, 120]),
            (back(0, 600), [40], [405, 40, 130]),
            (back(0, 600), [0], [405, 40, 130]),
            (back(2, 600), [0], [405, 40, 130]),
            (back(1, 600), [15], [405, 55, 140]),
            (back(3, 599), [-4], [405, 55, 140]),
            (ride(0, 615), [1], [405, 55, 140]),
            (ride(0, 615), [-1], [405, 55, 140]),
            (close(0), [0], [405, 55, 140]),
            (books(), [0, 405, 55, 140], [405, 55, 140]),
            (begin(MONEY + 1), [-22], [405, 55, 140]),
            (begin(0), [0], [0, 0, 0]),
        )
        calls = [told[0][0]]
        expected = [told[0][1]]
        for call, answer, money in told[1:]:
            calls += [call, books()]
            expected += [answer, [0] + money]
        self.assertEqual(run(*calls), expected)

    def test_nothing_at_first(self):
        self.assertEqual(run(begin(5), books()), [[0], [0, 0, 0, 0]])

    def test_all_are_0_after_begin(self):
        sold = [fare(1, 3, price=100), fare(3, 4, price=50), buy(THREE), change(0, LAST), back(0, 9)]
        self.assertEqual(run(begin(10), *sold, books(), begin(0), books(), *sold, books())[6:9],
                         [[0, 160, 40, 120], [0], [0, 0, 0, 0]])
        self.assertEqual(run(begin(10), begin(0), *sold, books())[-1], [0, 150, 50, 100])

    def test_has_no_now(self):
        one = chain([1, 2])
        self.assertEqual(run(begin(), fare(price=3), buy(one, now=9), books(), buy(one, now=9))[3:],
                         [[0, 3, 0, 0], [1, 3]])

    def test_great_sums(self):
        legs = chain([1] * 17)
        dear = [begin(MONEY), fare(1, 1, price=MONEY, length=10)] + [buy(legs)] * 64
        self.assertEqual(run(*dear, books())[-1], [0, 64 * 16 * MONEY, 0, 0])


if __name__ == "__main__":
    unittest.main()
