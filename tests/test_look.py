"""Promise 3: look takes a look or refuses it."""

import unittest

from asking import asked, axis, data, last, look

ROWS = data(2, [10, 30], [70, 90])
KEPT = look(3, 50, 60, 4)


class LookTest(unittest.TestCase):
    def taken(self, call):
        self.assertEqual(last(call), [0])
        self.assertEqual(last(KEPT, call), [0])

    def refused(self, call):
        """The look is refused, and the one before is there as before."""
        kept = asked(KEPT, ROWS, axis(0), axis(1))[2:]
        self.assertEqual(asked(KEPT, ROWS, call, axis(0), axis(1))[2:], [[-1]] + kept)
        first = asked(ROWS, axis(0), axis(1))[1:]
        self.assertEqual(asked(ROWS, call, axis(0), axis(1))[1:], [[-1]] + first)

    def test_kinds(self):
        for kind in range(5):
            self.taken(look(kind))
        self.refused(look(5))
        self.refused(look(4294967295))

    def test_how_wide(self):
        self.refused(look(0, wide=0))
        self.refused(look(0, wide=15))
        self.taken(look(0, wide=16))
        self.taken(look(0, wide=4096))
        self.refused(look(0, wide=4097))

    def test_how_high(self):
        self.refused(look(0, high=0))
        self.refused(look(0, high=15))
        self.taken(look(0, high=16))
        self.taken(look(0, high=4096))
        self.refused(look(0, high=4097))

    def test_how_many_steps(self):
        self.refused(look(0, steps=0))
        self.refused(look(0, steps=1))
        self.taken(look(0, steps=2))
        self.taken(look(0, steps=64))
        self.refused(look(0, steps=65))

    def test_one_of_them_wrong_refuses_all(self):
        self.refused(look(5, 100, 200, 20))
        self.refused(look(2, 100, 200, 65))
        self.refused(look(2, 100, 4097, 20))
        self.refused(look(2, 15, 200, 20))

    def test_it_is_the_look_from_then_on(self):
        told = asked(ROWS, look(3, 50, 60, 4), axis(0), axis(1))[2:]
        self.assertEqual(told[0], [4, 70, 5, 0, 15, 30, 44, 59])
        self.assertEqual(told[1], [4, 10, 5, 0, 12, 25, 37, 49])

    def test_the_last_look_counts_and_rows_stay(self):
        told = last(ROWS, look(3, 50, 60, 4), look(2, 16, 4096, 2), axis(0))
        self.assertEqual(told, [2, 0, 50, 0, 2048, 4095])

    def test_wide_and_high_are_not_mixed_up(self):
        told = asked(ROWS, look(3, 4096, 16, 64), axis(0), axis(1))[2:]
        self.assertEqual([answer[-1] for answer in told], [15, 4095])


if __name__ == "__main__":
    unittest.main()
