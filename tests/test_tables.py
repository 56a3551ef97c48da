"""Tables looked between, as the advance and the fuel are."""

import random
import unittest
from fractions import Fraction
from math import floor

from drive import ask, by_line, even, flat, known, start, teeth, told_of
from enginetimes.tables import look_between


class LookBetween(unittest.TestCase):
    def test_own_places(self):
        table = list(range(256))
        for line in range(16):
            for column in range(16):
                self.assertEqual(look_between(table, 256 * column, 256 * line), 16 * line + column)

    def test_last_line_and_column(self):
        table = [random.Random(1).randrange(32768) for place in range(256)]
        self.assertEqual(look_between(table, 3840, 3840), table[255])
        self.assertEqual(look_between(table, 3840, 128), (table[15] + table[31] + 1) // 2)
        self.assertEqual(look_between(table, 128, 3840), (table[240] + table[241] + 1) // 2)

    def test_halves_go_up(self):
        self.assertEqual(look_between(by_line([0, 1] + [0] * 14), 0, 128), 1)
        self.assertEqual(look_between(by_line([0, 1] + [0] * 14), 0, 127), 0)

    def test_between_four(self):
        rand = random.Random(2)
        for turn in range(300):
            table = [rand.randrange(32768) for place in range(256)]
            x, y = rand.randrange(3840), rand.randrange(3840)
            a, b = table[16 * (y // 256) + x // 256:][:2]
            c, d = table[16 * (y // 256 + 1) + x // 256:][:2]
            u, v = Fraction(x % 256, 256), Fraction(y % 256, 256)
            exact = a * (1 - u) * (1 - v) + b * u * (1 - v) + c * (1 - u) * v + d * u * v
            self.assertEqual(look_between(table, x, y), floor(exact + Fraction(1, 2)))


class AtATooth(unittest.TestCase):
    ZERO = 10 ** 7

    def opened_for(self, d, fuel):
        """How long the valve of cylinder 2 is told to stay open, on an even wheel."""
        found = ask([start(fuel=fuel)] + known(self.ZERO, d) + teeth(even(self.ZERO, d, 1, 12)))
        times = [t for what, c, t in told_of(found, 2) if what in (3, 4)]
        return times[1] - times[0]

    def test_speed_is_the_line_and_load_0_the_first_column(self):
        table = [16 * line + column + 1000 for line in range(16) for column in range(16)]
        # 2^20 / 1024 is 1024, line 4; 2^20 / 512 is 2048, line 8.
        self.assertEqual(self.opened_for(1024, table), 1064)
        self.assertEqual(self.opened_for(512, table), 1128)
        # 2^20 / 640 is 1638, rounded down: line 6, and 102 of 256 on the way to line 7.
        self.assertEqual(self.opened_for(640, table), 1096 + (16 * 102 + 128) // 256)

    def test_speed_is_rounded_down(self):
        # 2^20 / 4095 is just above 256, 2^20 / 4097 just below it, so 255.
        table = by_line([0, 256 * 100] + [0] * 14)
        self.assertEqual(self.opened_for(4095, table), 25600)
        self.assertEqual(self.opened_for(4097, table), 25500)

        # 2^20 is 17 times 61681, less 1: the speed is 16.
        self.assertEqual(self.opened_for(61681, table), 1600)

    def test_load_is_0_at_first(self):
        table = [5 if place % 16 == 0 else 32767 for place in range(256)]
        self.assertEqual(self.opened_for(640, table), 5)

    def test_speed_is_3840_at_most(self):
        table = by_line([1] * 15 + [777])
        for d in (1, 2, 100, 200, 273):
            self.assertEqual(self.opened_for(d, table), 777)
        # 2^20 / 274 is 3826.
        self.assertEqual(self.opened_for(274, table), 1 + (776 * 242 + 128) // 256)

    def test_fuel_of_0_where_the_table_says_so(self):
        table = by_line([5] * 4 + [0] + [5] * 11)
        found = ask([start(fuel=table)] + known(self.ZERO, 1024) + teeth(even(self.ZERO, 1024, 1, 70)))
        whats = [what for c in range(4) for what, cylinder, t in told_of(found, c)]
        self.assertNotIn(3, whats)
        self.assertNotIn(4, whats)
        self.assertIn(1, whats)

    def test_advance_is_looked_between_too(self):
        # At 1638 the advance is 102 of 256 on the way from 0 to 512: 204; position 436 comes at 4360.
        table = by_line([0] * 7 + [512] * 9)
        found = ask([start(advance=table)] + known(self.ZERO, 640) + teeth(even(self.ZERO, 640, 1, 12)))
        self.assertIn((1, 0, self.ZERO + 4360), told_of(found, 0))

    def test_greatest_numbers(self):
        self.assertEqual(self.opened_for(640, flat(32767)), 32767)


if __name__ == "__main__":
    unittest.main()
