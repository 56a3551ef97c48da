"""Promise 2: what a tooth tells of each cylinder."""

import unittest

from drive import CAM, CLOSES, ON, OPENS, SOFT, SPARK
from drive import ask, by_line, even, flat, known, start, teeth, told, told_of, tooth
from enginetimes.crank import Crank
from enginetimes.cylinder import DONE, IDLE, ON as ON_PHASE, Cylinder
from enginetimes.engine import Timing
from enginetimes.moment import Moment

# At 640 microseconds a tooth, 10 go by for each position; position p of turn 0 comes at ZERO + 10 p.
ZERO = 100000
D = 640


def even_run(how, end, cams=(), d=D):
    """The answers at an even wheel's teeth from surely 0 on; cams are the teeth ahead of which the cam is told."""
    calls = [start(**how)] + known(ZERO, d)
    places = [len(calls) - 1]
    for n, t in enumerate(even(ZERO, d, 1, end), 1):
        if n in cams:
            calls.append(CAM)
        places.append(len(calls))
        calls.append(tooth(t))
    found = ask(calls)
    return [found[place] for place in places]


def run_by_times(how, times, zero=ZERO, d=D):
    """The answers at tooth 0, surely, and at teeth at times of one's own behind it."""
    calls = [start(**how)] + known(zero, d) + teeth(times)
    return ask(calls)[-1 - len(times):]


class Coils(unittest.TestCase):
    def test_each_goes_on_and_sparks_where_its_position_is(self):
        found = even_run(dict(dwell=3000, most=5000, advance=flat(100)), 70)
        self.assertEqual([answer[0] for answer in found], [1] * 70)
        for c in range(4):
            spark = ZERO + 10 * (1152 * c + 540)
            self.assertEqual(told_of(found, c), [(ON, c, spark - 3000), (SOFT, c, spark + 2000), (SPARK, c, spark)])

    def test_told_at_the_tooth_ahead_of_it(self):
        found = even_run(dict(dwell=3000, most=5000, advance=flat(100)), 12)
        # Going on comes 2400 behind tooth 0, which is behind tooth 3; the spark 5400, which is behind tooth 8.
        self.assertEqual(found, [[1], [1], [1], [1, 0, 0, 102400, 2, 0, 107400], [1], [1], [1], [1],
                                 [1, 1, 0, 105400], [1], [1], [1]])

    def test_going_on_just_when_the_span_comes_waits_for_the_next_tooth(self):
        # s less dwell is 2560 behind tooth 0, which is tooth 4 itself.
        found = even_run(dict(dwell=2840, most=5000, advance=flat(100)), 6)
        self.assertEqual(found[3:5], [[1], [1, 0, 0, 102560, 2, 0, 107560]])
        found = even_run(dict(dwell=2841, most=5000, advance=flat(100)), 6)
        self.assertEqual(found[3:5], [[1, 0, 0, 102559, 2, 0, 107559], [1]])

    def test_dwell_longer_than_what_is_left(self):
        # At tooth 0, 5400 are left: it goes on at once, and not before.
        found = even_run(dict(dwell=6000, most=9000, advance=flat(100)), 10)
        self.assertEqual(found[0], [1, 0, 0, ZERO, 2, 0, ZERO + 9000])
        self.assertEqual(found[8], [1, 1, 0, ZERO + 5400])

    def test_dwell_longer_than_a_quarter(self):
        # Not farther than 1152 ahead, whatever dwell asks.
        found = even_run(dict(dwell=60000, most=65536, advance=flat(640)), 70)
        self.assertEqual(told(found[0]), [(ON, 0, ZERO), (SOFT, 0, ZERO + 65536), (SPARK, 0, ZERO),
                                          (ON, 1, ZERO), (SOFT, 1, ZERO + 65536)])
        self.assertEqual(told_of(found[:19], 2), [(ON, 2, ZERO + 11520), (SOFT, 2, ZERO + 11520 + 65536)])
        found = even_run(dict(dwell=60000, most=65536, advance=flat(639)), 70)
        self.assertEqual(told_of(found[:1], 1), [])
        self.assertEqual(told_of(found[:2], 1), [(ON, 1, ZERO + 640), (SOFT, 1, ZERO + 640 + 65536)])

    def test_on_and_spark_at_one_tooth(self):
        # 540 is 28 ahead of tooth 8: dwell of 100 lies wholly behind that tooth.
        found = even_run(dict(dwell=100, most=150, advance=flat(100)), 9)
        self.assertEqual(found[8], [1, 0, 0, 105300, 2, 0, 105450, 1, 0, 105400])

    def test_spark_times_are_rounded_down(self):
        # 60 ahead of tooth 8 at 641 a tooth: 641 * 60 / 64 is 600.9.
        found = even_run(dict(dwell=3000, most=5000, advance=flat(68)), 9, d=641)
        self.assertEqual(found[8], [1, 1, 0, ZERO + 8 * 641 + 600])

    def test_each_cycle_one_spark(self):
        found = even_run(dict(dwell=3000, most=5000, advance=flat(100)), 280, cams=(70, 140, 210))
        for c in range(4):
            sparks = [t for what, cylinder, t in told_of(found, c) if what == SPARK]
            self.assertEqual(sparks, [ZERO + 10 * (4608 * k + 1152 * c + 540) for k in range(4)])

    def test_spark_in_the_missing_tooths_place(self):
        # 2944 less 690 is 2254, 78 ahead of tooth 34.
        found = even_run(dict(dwell=500, most=700, advance=flat(690)), 36)
        self.assertEqual(told(found[34]), [(ON, 2, ZERO + 22040), (SOFT, 2, ZERO + 22740), (SPARK, 2, ZERO + 22540)])
        self.assertEqual(told_of(found[:34] + found[35:], 2), [])

    def test_span_of_tooth_34_ends_with_the_turn(self):
        # 2944 less 640 is 2304: tooth 0 of turn 1, not tooth 34.
        found = even_run(dict(dwell=100, most=200, advance=flat(640)), 36)
        self.assertEqual(told_of([found[34]], 2), [(ON, 2, ZERO + 22940), (SOFT, 2, ZERO + 23140)])
        self.assertEqual(told_of([found[35]], 2), [(SPARK, 2, ZERO + 23040)])

    def test_position_4607(self):
        found = even_run(dict(dwell=500, most=700, advance=flat(641)), 71, cams=(70,))
        self.assertEqual(told_of(found[:69], 0), [])
        self.assertEqual(told(found[69]), [(ON, 0, ZERO + 45570), (SOFT, 0, ZERO + 46270), (SPARK, 0, ZERO + 46070)])
        self.assertEqual(told_of(found[70:], 0), [])

    def test_position_0(self):
        found = even_run(dict(dwell=500, most=700, advance=flat(640)), 71, cams=(70,))
        self.assertEqual(told(found[0]), [(ON, 0, ZERO), (SOFT, 0, ZERO + 700), (SPARK, 0, ZERO)])
        self.assertEqual(told_of(found[1:69], 0), [])
        again = ZERO + 46080
        self.assertEqual(told_of(found[69:], 0), [(ON, 0, again - 500), (SOFT, 0, again + 200), (SPARK, 0, again)])

    def test_advance_greatest(self):
        # 640 less 1024 is 4224 of the cycle before; nothing of it is left at the first tooth 0.
        found = even_run(dict(dwell=500, most=700, advance=flat(1024)), 70)
        spark = ZERO + 42240
        self.assertEqual(told_of(found, 0), [(ON, 0, spark - 500), (SOFT, 0, spark + 200), (SPARK, 0, spark)])

    def test_dwell_and_most_alike(self):
        found = even_run(dict(dwell=3000, most=3000, advance=flat(100)), 70)
        for c in range(4):
            spark = ZERO + 10 * (1152 * c + 540)
            # Just most later is not more than most later, so there is a spark.
            self.assertEqual(told_of(found, c), [(ON, c, spark - 3000), (SOFT, c, spark), (SPARK, c, spark)])

    def test_dwell_and_most_alike_when_it_slows(self):
        times = even(ZERO, D, 1, 8) + [ZERO + 7 * D + D + 1]
        found = run_by_times(dict(dwell=3000, most=3000, advance=flat(100)), times)
        # The spark would come after the soft going off: there is none, and the coil is done all the same.
        self.assertEqual(found[3:], [[1, 0, 0, 102400, 2, 0, 105400]] + [[1]] * 5)
        later = run_by_times(dict(dwell=3000, most=3000, advance=flat(100)), times + [times[-1] + 640])
        self.assertEqual(later[-1], [1])

    def test_on_is_not_told_anew(self):
        found = even_run(dict(dwell=5000, most=5500, advance=flat(100)), 8)
        self.assertEqual([told_of([answer], 0) for answer in found],
                         [[(ON, 0, ZERO + 400), (SOFT, 0, ZERO + 5900)]] + [[]] * 7)


class Tooth0(unittest.TestCase):
    def test_interval_is_halved_rounded_down(self):
        # The gap lasts 1283, half of it is 641: 20 ahead come 641 * 20 / 64, which is 200.
        calls = [start(dwell=100, most=150, advance=flat(620))] + known(ZERO, D)[:-1] + [tooth(ZERO + 3)]
        zero = ZERO + 3
        self.assertEqual(ask(calls)[-1], [1, 0, 0, zero + 100, 2, 0, zero + 250, 1, 0, zero + 200])

    def test_speed_is_of_the_halved_interval(self):
        # At 1024 a tooth, the gap is 2048: were that not halved, line 2 would be looked at in the place of line 4.
        lines = [0] * 16
        lines[2], lines[4] = 630, 620
        found = run_by_times(dict(dwell=10, most=20, advance=by_line(lines)), [], d=1024)
        self.assertEqual(told_of(found, 0)[-1], (SPARK, 0, ZERO + 320))

    def test_smallest_interval(self):
        # 50 ahead at 1 a tooth is less than a microsecond.
        calls = [start(dwell=1, most=2, advance=flat(590))] + known(ZERO, 1)
        self.assertEqual(ask(calls)[-1], [1, 0, 0, ZERO, 2, 0, ZERO + 2, 1, 0, ZERO])


class SpeedChanges(unittest.TestCase):
    """The advance follows the speed: at 1024 a tooth line 4 is looked at, at 512 line 8."""

    def lines(self, slow, fast):
        return by_line([slow] * 5 + [fast] * 11)

    def test_spark_gone_by_when_the_advance_grows(self):
        # Position 640 at first, 440 then: 8 ahead of it, tooth 7 lies at 448.
        how = dict(dwell=5000, most=9000, advance=self.lines(0, 200))
        slow = [ZERO + 1024 * k for k in range(1, 7)]
        fast = slow[-1] + 512
        found = run_by_times(how, slow + [fast, fast + 512, fast + 1024], d=1024)
        self.assertEqual(told_of(found[:-3], 0), [(ON, 0, ZERO + 5240), (SOFT, 0, ZERO + 14240)])
        # It was told to go on 5240 behind tooth 0, and is told to go off at tooth 7, at 6656.
        self.assertEqual(told_of([found[-3]], 0), [(SPARK, 0, fast)])
        self.assertEqual(told_of(found[-2:], 0), [])

    def test_gone_by_ahead_of_its_going_on(self):
        # Told at tooth 6 to go on at 7167; tooth 7 comes at 6656, and the spark's position is gone by.
        how = dict(dwell=3073, most=9000, advance=self.lines(0, 200))
        slow = [ZERO + 1024 * k for k in range(1, 7)]
        fast = slow[-1] + 512
        found = run_by_times(how, slow + [fast, fast + 512], d=1024)
        self.assertEqual(told_of([found[-3]], 0), [(ON, 0, ZERO + 7167), (SOFT, 0, ZERO + 16167)])
        self.assertEqual(told_of([found[-2]], 0), [(SPARK, 0, fast)])
        self.assertEqual(told_of([found[-1]], 0), [])

    def test_gone_by_later_than_most(self):
        # Told at tooth 1 to go on 1240 behind tooth 0; it slows to 1366 a tooth, then the advance grows.
        how = dict(dwell=9000, most=9000, advance=self.lines(0, 200))
        times = [ZERO + 1024 + 1366 * k for k in range(7)]
        found = run_by_times(how, times + [times[-1] + 512, times[-1] + 1024], d=1024)
        # Tooth 8, at 9732, is 8492 behind its going on: there is a spark.
        self.assertEqual(told_of(found, 0), [(ON, 0, ZERO + 1240), (SOFT, 0, ZERO + 10240),
                                             (SPARK, 0, times[-1] + 512)])
        times.append(times[-1] + 1366)
        found = run_by_times(how, times + [times[-1] + 512], d=1024)
        # Tooth 9, at 11098, is more than 9000 behind it: it stays with the soft going off.
        self.assertEqual(told_of(found, 0), [(ON, 0, ZERO + 1240), (SOFT, 0, ZERO + 10240)])

    def test_one_that_would_come_twice_when_the_advance_falls(self):
        # At 512 a tooth the spark's position is 128, and at 690 (line 5 of the table) it is 640 again.
        lines = by_line([0] * 7 + [512] * 9)
        times = [ZERO + 512 * k for k in range(1, 4)]
        slow = [times[-1] + 690 * k for k in range(1, 9)]
        found = run_by_times(dict(dwell=500, most=900, advance=lines), times + slow, d=512)
        self.assertEqual(told_of(found, 0),
                         [(ON, 0, ZERO + 524), (SOFT, 0, ZERO + 1424), (SPARK, 0, ZERO + 1024)])

    def test_idle_again_from_1152_ahead_on(self):
        # Its spark is done at position 540; a is 1152 again when the crank is at 3996, so idle behind tooth 62.
        found = even_run(dict(dwell=30000, most=40000, advance=flat(100)), 70)
        self.assertEqual(told_of(found[9:62], 0), [])
        first = ZERO + 640 * 64
        self.assertEqual(told_of(found[62:], 0), [(ON, 0, first - 640), (SOFT, 0, first - 640 + 40000)])

    def test_greatest_fall(self):
        # Cylinder 1 sparks at 768, tooth 12; the advance falls from 1024 to 0 and puts it at 1792, 960 ahead.
        lines = by_line([0] * 7 + [1024] * 9)
        times = [ZERO + 512 * k for k in range(1, 13)]
        slow = [times[-1] + 690 * k for k in range(1, 19)]
        found = run_by_times(dict(dwell=500, most=900, advance=lines), times + slow, d=512)
        spark = ZERO + 12 * 512
        self.assertEqual(told_of(found, 1), [(ON, 1, spark - 500), (SOFT, 1, spark + 400), (SPARK, 1, spark)])


class Resting(unittest.TestCase):
    def test_done_is_idle_from_1152_to_2303(self):
        for ahead, phase in ((0, DONE), (1151, DONE), (1152, IDLE), (2303, IDLE), (2304, DONE), (4607, DONE)):
            cylinder = Cylinder(0)
            cylinder.phase = DONE
            cylinder.rest(ahead)
            self.assertEqual(cylinder.phase, phase)

    def test_gone_by_is_above_2304(self):
        crank = Crank()
        for t in [0, 10, 30] + [30 + 10 * k for k in range(1, 35)] + [390]:
            crank.tell_cam()
            crank.pass_tooth(t)
        moment = Moment(crank)
        for ahead, answer in ((63, [SPARK, 0, 399]), (64, []), (2304, []), (2305, [SPARK, 0, 390])):
            cylinder = Cylinder(0)
            cylinder.phase = ON_PHASE
            cylinder.went_on = 390
            self.assertEqual(cylinder.spark(moment, ahead, Timing(10, 20, 0, 0)), answer)

    def test_no_going_on_before_it_is_off(self):
        # At tooth 34, 200 a tooth, a spark is told 125 ahead, 390 later. Then the wheel turns at 2 a tooth: the
        # next cycle's going on is due from 380 later on, but the coil isn't off before 390.
        zero = ZERO + 34 * 200 + 272
        fast = even(zero, 2, 1, 60)
        calls = [start(dwell=300, most=400, advance=flat(643))] + known(ZERO, 200) + teeth(even(ZERO, 200, 1, 35))
        calls += [tooth(zero), CAM] + teeth(fast)
        found = ask(calls)
        last = ZERO + 34 * 200
        self.assertEqual(told_of(found, 2)[:3], [(ON, 2, last + 90), (SOFT, 2, last + 490), (SPARK, 2, last + 390)])
        self.assertEqual(told_of(found, 2)[3:5], [(ON, 2, last + 390), (SOFT, 2, last + 790)])
        self.assertIn(last + 388, fast)


class GivenUp(unittest.TestCase):
    def lead(self, end, **how):
        return [start(**how)] + known(ZERO, D) + teeth(even(ZERO, D, 1, end))

    def test_on_goes_off_softly(self):
        # Cylinder 0 was told to go on at 102400, and to be off at 107400.
        last = ZERO + 3 * D
        found = ask(self.lead(4) + [tooth(last + 2 * D)])
        self.assertEqual(found[-2:], [[1, 0, 0, 102400, 2, 0, 107400], [0, 2, 0, last + 2 * D]])

    def test_told_once(self):
        last = ZERO + 3 * D
        found = ask(self.lead(4) + teeth([last + 2 * D, last + 2 * D + 1]))
        self.assertEqual(found[-2:], [[0, 2, 0, last + 2 * D], [0]])

    def test_off_already(self):
        last = ZERO + 3 * D
        lost = last + 2 ** 20 + 1
        self.assertEqual(ask(self.lead(4) + [tooth(lost)])[-1], [0])

    def test_off_just_now_is_not_later(self):
        # At tooth 3 it is told to be off at 107400.
        for t, answer in ((107399, [0, 2, 0, 107399]), (107400, [0]), (107401, [0])):
            self.assertEqual(ask(self.lead(4) + [tooth(t)])[-1], answer)

    def test_too_long_an_interval(self):
        # 125 ahead of tooth 34 come 600000 * 125 / 64 later, more than the longest interval.
        d = 2 ** 19
        zero = 2 ** 30
        last = zero + 33 * d + 600000
        calls = [start(advance=flat(643))] + known(zero, d) + teeth(even(zero, d, 1, 34)) + [tooth(last)]
        found = ask(calls + [tooth(last + 2 ** 20 + 1)])
        self.assertEqual(told_of([found[-2]], 2), [(ON, 2, last + 1168875), (SOFT, 2, last + 1173875),
                                                   (SPARK, 2, last + 1171875)])
        self.assertEqual(found[-1], [0, 2, 2, last + 2 ** 20 + 1])

    def test_several_cylinders_in_order(self):
        # At tooth 0 cylinder 1 is 768 ahead; at tooth 1 the advance falls, and cylinder 0 is 576 ahead.
        how = dict(dwell=60000, most=65536, advance=by_line([0] * 5 + [1024] * 11))
        slow = ZERO + 1024
        lost = slow + 2048
        found = run_by_times(how, [slow, lost, lost + 1], d=512)
        self.assertEqual(found, [[1, 0, 1, ZERO, 2, 1, ZERO + 65536], [1, 0, 0, slow, 2, 0, slow + 65536],
                                 [0, 2, 0, lost, 2, 1, lost], [0]])

    def test_spark_that_has_not_come(self):
        # Told at tooth 34, 78 ahead; the next tooth comes after 640 without a gap, and the spark after 780.
        found = ask(self.lead(35, dwell=500, most=700, advance=flat(690)) + [tooth(ZERO + 35 * D)])
        self.assertEqual(told(found[-2])[-1], (SPARK, 2, ZERO + 22540))
        self.assertEqual(found[-1], [0, 2, 2, ZERO + 22400])

    def test_turn_not_known_any_more(self):
        # Without a cam, behind turn 1 it's surely tooth 0, but the turn isn't known.
        how = dict(dwell=3000, most=65536, advance=flat(600))
        found = even_run(how, 71)
        # Cylinder 0 is told to go on 3000 ahead of position 40 of the next cycle.
        spark = ZERO + 46080 + 400
        self.assertEqual(told_of(found[64:70], 0), [(ON, 0, spark - 3000), (SOFT, 0, spark + 62536)])
        self.assertEqual(found[70], [0, 2, 0, ZERO + 46080])

    def test_all_are_idle_again(self):
        # Lost while cylinder 0 is on, and while it is done; behind both it goes on anew.
        for end in (4, 9):
            lost = [tooth(ZERO + (end + 1) * D)]
            zero = ZERO + 60 * D
            found = ask(self.lead(end) + lost + known(zero, D) + teeth(even(zero, D, 1, 9)))
            self.assertEqual(told_of(found[-9:], 0), [(ON, 0, zero + 2400), (SOFT, 0, zero + 7400),
                                                      (SPARK, 0, zero + 5400)])

    def test_nothing_told_where_turn_is_not_known(self):
        calls = [start(fuel=flat(9))] + [call for call in known(ZERO, D) if call != CAM]
        found = ask(calls + teeth(even(ZERO, D, 1, 105)))
        self.assertEqual(found, [[0]] * len(found))


class Valves(unittest.TestCase):
    def test_each_opens_once(self):
        found = even_run(dict(fuel=flat(2500)), 70)
        for c, position in ((0, 2944), (1, 4096), (2, 640), (3, 1792)):
            opens = ZERO + 10 * position
            valve = [each for each in told_of(found, c) if each[0] in (OPENS, CLOSES)]
            self.assertEqual(valve, [(OPENS, c, opens), (CLOSES, c, opens + 2500)])

    def test_told_at_its_tooth(self):
        found = even_run(dict(fuel=flat(1)), 70)
        # Position 640 is tooth 10; 1792 tooth 28; 2944 is tooth 10 of turn 1, 4096 its tooth 28.
        for n, c in ((10, 2), (28, 3), (45, 0), (63, 1)):
            at = even(ZERO, D, n, n + 1)[0]
            valve = [each for each in told(found[n]) if each[0] >= OPENS]
            self.assertEqual(valve, [(OPENS, c, at), (CLOSES, c, at + 1)])

    def test_fuel_of_0(self):
        found = even_run(dict(fuel=flat(0)), 70)
        self.assertEqual([each for answer in found for each in told(answer) if each[0] >= OPENS], [])

    def test_behind_the_coil_of_the_same_cylinder(self):
        # With advance 0 cylinder 0 sparks at tooth 10, where the valve of cylinder 2 opens.
        found = even_run(dict(dwell=100, most=200, advance=flat(0), fuel=flat(7)), 11)
        at = ZERO + 6400
        self.assertEqual(told(found[9]), [(ON, 0, at - 100), (SOFT, 0, at + 100)])
        self.assertEqual(told(found[10]), [(SPARK, 0, at), (OPENS, 2, at), (CLOSES, 2, at + 7)])


if __name__ == "__main__":
    unittest.main()
