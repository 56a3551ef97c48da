"""Promise 4: load."""

import unittest

from drive import CAM, CLOSES, ON, OPENS, REFUSED, SOFT, SPARK, STATE
from drive import ask, by_column, even, flat, known, load, start, teeth, tick, told_of, tooth

# At 640 microseconds a tooth, 10 go by for each position; position p of turn 0 comes at ZERO + 10 p.
ZERO = 100000
D = 640


def even_run(how, loads, end):
    """The answers at an even wheel's teeth from surely 0 on; loads tells the load ahead of which tooth."""
    calls = [start(**how)] + known(ZERO, D)[:-1]
    places = []
    for n, t in enumerate(even(ZERO, D, 0, end)):
        if n in loads:
            calls.append(load(loads[n]))
        places.append(len(calls))
        calls.append(tooth(t))
    found = ask(calls)
    return [found[place] for place in places]


def opened_for(first_calls):
    """How long the valve of cylinder 2 is told to stay open behind these calls; it opens at tooth 10."""
    found = ask(first_calls + known(ZERO, D) + teeth(even(ZERO, D, 1, 12)))
    times = [t for what, c, t in told_of(found[len(first_calls):], 2) if what in (OPENS, CLOSES)]
    return times[1] - times[0]


class Answers(unittest.TestCase):
    def test_taken(self):
        for number in (0, 1, 255, 256, 3839, 3840):
            self.assertEqual(ask([start(), load(number)])[-1], [0], number)

    def test_refused(self):
        for number in (3841, 4095, 4096, 65536, 2 ** 31, 2 ** 32 - 1):
            self.assertEqual(ask([start(), load(number)])[-1], REFUSED, number)

    def test_at_any_time(self):
        calls = [start(), load(1), tooth(5), load(3840), load(3841), CAM, load(0), tick(6), load(7)]
        self.assertEqual(ask(calls), [[0], [0], [0], [0], REFUSED, [0], [0], [0], [0]])


class Looked(unittest.TestCase):
    """The fuel rises by 100 with each column."""

    FIRST = start(fuel=by_column(range(1000, 2600, 100)))

    def test_0_at_first(self):
        self.assertEqual(opened_for([self.FIRST]), 1000)

    def test_each_column(self):
        for column in range(16):
            self.assertEqual(opened_for([self.FIRST, load(256 * column)]), 1000 + 100 * column)

    def test_between_columns(self):
        for number in (1, 2, 127, 128, 129, 1000, 3583, 3584, 3839):
            self.assertEqual(opened_for([self.FIRST, load(number)]), 1000 + (100 * number + 128) // 256, number)

    def test_between_lines_and_columns(self):
        table = [1000 * (place % 16) + place // 16 * (place % 16) for place in range(256)]
        # At 640 a tooth the speed is 1638: 102 of 256 from line 6 on; 640 is half from column 2 on to column 3.
        four = [2012, 3018, 2014, 3021]
        between = (four[0] * 128 * 154 + four[1] * 128 * 154 + four[2] * 128 * 102 + four[3] * 128 * 102 + 32768)
        self.assertEqual(opened_for([start(fuel=table), load(640)]), between // 65536)

    def test_the_last_one_told_counts(self):
        self.assertEqual(opened_for([self.FIRST, load(3840), load(512), load(256)]), 1100)
        self.assertEqual(opened_for([self.FIRST, load(3840), load(0)]), 1000)

    def test_refused_leaves_the_load_as_it_was(self):
        for wrong in (3841, 4096, 2 ** 32 - 1):
            self.assertEqual(opened_for([self.FIRST, load(512), load(wrong)]), 1200)
            self.assertEqual(opened_for([self.FIRST, load(wrong)]), 1000)

    def test_0_again_behind_another_start(self):
        self.assertEqual(opened_for([self.FIRST, load(3840), self.FIRST]), 1000)

    def test_stays_behind_a_start_that_is_refused(self):
        self.assertEqual(opened_for([self.FIRST, load(3840), start(dwell=0)]), 2500)

    def test_stays_when_the_crank_is_lost(self):
        lost = [tooth(0), tooth(10), tooth(20 + 2 ** 20)]
        found = ask([self.FIRST, load(256)] + lost + known(2 ** 21, D) + teeth(even(2 ** 21, D, 1, 12)))
        self.assertEqual([t for what, c, t in told_of(found, 2) if what == CLOSES], [2 ** 21 + 6400 + 1100])

    def test_advance_too(self):
        # Half from 100 on to 300: the spark is at 440.
        found = even_run(dict(advance=by_column([100, 300] + [0] * 14)), {0: 128}, 12)
        self.assertEqual(told_of(found, 0), [(ON, 0, ZERO + 1400), (SOFT, 0, ZERO + 6400), (SPARK, 0, ZERO + 4400)])


class InTheMidst(unittest.TestCase):
    """The advance or the fuel differs from column to column, and the load is told between two teeth."""

    def columns(self, first, last):
        return by_column([first] * 15 + [last])

    def test_from_the_next_tooth_on(self):
        how = dict(fuel=self.columns(70, 90))
        opens = ZERO + 6400
        # The valve of cylinder 2 opens at tooth 10: told ahead of it the load counts, told behind it it's too late.
        for ahead_of, fuel in ((9, 90), (10, 90), (11, 70)):
            found = even_run(how, {ahead_of: 3840}, 13)
            valve = [each for each in told_of(found, 2) if each[0] >= OPENS]
            self.assertEqual(valve, [(OPENS, 2, opens), (CLOSES, 2, opens + fuel)])

    def test_each_valve_by_the_load_at_its_tooth(self):
        found = even_run(dict(fuel=by_column(range(100, 116))), {10: 256, 20: 512, 28: 768, 46: 1024}, 70)
        closes = [(c, t) for c in range(4) for what, cylinder, t in told_of(found, c) if what == CLOSES]
        # Teeth 10, 28, and 10 and 28 of turn 1.
        self.assertEqual(closes, [(0, ZERO + 29440 + 103), (1, ZERO + 40960 + 104),
                                  (2, ZERO + 6400 + 101), (3, ZERO + 17920 + 103)])

    def test_fuel_becomes_0_and_is_there_again(self):
        found = even_run(dict(fuel=self.columns(70, 0)), {5: 3840, 20: 0}, 70)
        whats = [[what for what, cylinder, t in told_of(found, c) if what >= OPENS] for c in range(4)]
        self.assertEqual(whats, [[OPENS, CLOSES], [OPENS, CLOSES], [], [OPENS, CLOSES]])

    def test_what_was_told_stays(self):
        # Told at tooth 8, the spark comes 28 behind it; the load behind that tooth takes nothing back.
        plain = even_run(dict(advance=self.columns(100, 101)), {}, 30)
        found = even_run(dict(advance=self.columns(100, 101)), {9: 3840}, 30)
        self.assertEqual(told_of(found, 0), told_of(plain, 0))
        self.assertEqual(told_of(found, 0)[-1], (SPARK, 0, ZERO + 5400))

    def test_it_tells_nothing_by_itself(self):
        calls = [start(advance=self.columns(0, 1024))] + known(ZERO, D) + teeth(even(ZERO, D, 1, 7))
        found = ask(calls + [STATE, load(3840), STATE])
        self.assertEqual(found[-3:], [[0, 1, 0, 0, 0, 6, 0], [0], [0, 1, 0, 0, 0, 6, 0]])

    def test_spark_gone_by_when_the_advance_grows(self):
        # On since position 340 for the spark at 640, which is at 440 then: tooth 7, at 448, is behind it.
        found = even_run(dict(advance=self.columns(0, 200)), {7: 3840}, 30)
        self.assertEqual(told_of(found, 0), [(ON, 0, ZERO + 3400), (SOFT, 0, ZERO + 8400), (SPARK, 0, ZERO + 4480)])

    def test_spark_not_gone_by_yet_when_the_advance_grows(self):
        # At 448 it is just at tooth 7.
        found = even_run(dict(advance=self.columns(0, 192)), {7: 3840}, 30)
        self.assertEqual(told_of(found, 0)[-1], (SPARK, 0, ZERO + 4480))
        found = even_run(dict(advance=self.columns(0, 191)), {7: 3840}, 30)
        self.assertEqual(told_of(found, 0)[-1], (SPARK, 0, ZERO + 4490))

    def test_gone_by_before_it_is_told_to_go_on(self):
        # It would be told at tooth 5; ahead of that tooth its position becomes 240, so it doesn't go on at all.
        found = even_run(dict(advance=self.columns(0, 400)), {5: 3840}, 36)
        self.assertEqual(told_of(found, 0), [])

    def test_one_that_would_come_twice_when_the_advance_falls(self):
        # The spark at 128 is done; then its position is 640, and 448 ahead of tooth 3.
        found = even_run(dict(dwell=500, most=900, advance=self.columns(0, 512)), {0: 3840, 3: 0}, 36)
        self.assertEqual(told_of(found, 0), [(ON, 0, ZERO + 780), (SOFT, 0, ZERO + 1680), (SPARK, 0, ZERO + 1280)])

    def test_advance_falls_while_it_is_on(self):
        # On at 240 for the spark at 540; from tooth 6 on it is at 640: later, but not more than most later.
        found = even_run(dict(advance=self.columns(100, 0)), {6: 3840}, 36)
        self.assertEqual(told_of(found, 0), [(ON, 0, ZERO + 2400), (SOFT, 0, ZERO + 7400), (SPARK, 0, ZERO + 6400)])

    def test_advance_falls_so_far_that_there_is_no_spark(self):
        # 640 comes 4000 behind its going on, and most is 3999; then 4000.
        for most, sparks in ((3999, []), (4000, [(SPARK, 0, ZERO + 6400)])):
            found = even_run(dict(most=most, advance=self.columns(100, 0)), {6: 3840}, 36)
            self.assertEqual(told_of(found, 0), [(ON, 0, ZERO + 2400), (SOFT, 0, ZERO + 2400 + most)] + sparks)

    def test_the_next_cylinders_by_the_new_load(self):
        found = even_run(dict(advance=self.columns(100, 300)), {15: 3840}, 70)
        sparks = [[t for what, cylinder, t in told_of(found, c) if what == SPARK] for c in range(4)]
        self.assertEqual(sparks, [[ZERO + 5400], [ZERO + 14920], [ZERO + 26440], [ZERO + 37960]])


class Kept(unittest.TestCase):
    def test_nothing_is_kept_from_one_time_to_the_next(self):
        first = start(fuel=by_column(range(1000, 2600, 100)))
        self.assertEqual(opened_for([first, load(3840)]), 2500)
        self.assertEqual(opened_for([first]), 1000)

    def test_flat_tables_answer_alike_with_any_load(self):
        how = dict(advance=flat(300), fuel=flat(50))
        plain = even_run(how, {}, 100)
        self.assertEqual(even_run(how, {n: 37 * n for n in range(100)}, 100), plain)


if __name__ == "__main__":
    unittest.main()
