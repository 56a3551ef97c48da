"""Promise 5: tick."""

import unittest

from drive import CAM, CLOSES, NOTHING_KNOWN, ON, OPENS, REFUSED, SOFT, SPARK, STATE
from drive import ask, by_column, even, flat, known, load, perhaps_last, start, teeth, tick, told_of, tooth
from enginetimes.engine import Engine

ZERO = 100000
D = 640
# The longest that the wheel may wait.
WAIT = 2 ** 20


def behind(calls, more):
    """What more calls answer behind these."""
    return ask(calls + more)[len(calls):]


def running(end, **how):
    """Up to tooth end - 1 of turn 0; cylinder 0 is told to go on at tooth 3, and its spark at tooth 8."""
    return [start(**how)] + known(ZERO, D) + teeth(even(ZERO, D, 1, end))


SLOW = 2 ** 19
SLOW_ZERO = 2 ** 30
SLOW_LAST = SLOW_ZERO + 33 * SLOW + 600000


def slow_running():
    """Up to tooth 34, at SLOW_LAST, at which cylinder 2 is told things later than the wheel may wait."""
    calls = [start(advance=flat(643))] + known(SLOW_ZERO, SLOW) + teeth(even(SLOW_ZERO, SLOW, 1, 34))
    return calls + [tooth(SLOW_LAST)]


class Refused(unittest.TestCase):
    def test_not_above_the_last_tooths_time(self):
        self.assertEqual(behind([start(), tooth(100)], [tick(100), tick(99), tick(0), tick(101)]),
                         [REFUSED, REFUSED, REFUSED, [0]])

    def test_above_the_first_tooth_but_not_the_last(self):
        self.assertEqual(behind([start(), tooth(100), tooth(200)], [tick(150), tick(200), tick(201)]),
                         [REFUSED, REFUSED, [0]])

    def test_last_tooth_at_0(self):
        self.assertEqual(behind([start(), tooth(0)], [tick(0), tick(1)]), [REFUSED, [0]])

    def test_too_great(self):
        wrong = [tick(2 ** 62), tick(2 ** 62 + 1), tick(2 ** 63), tick(2 ** 64 - 1)]
        self.assertEqual(behind([start()], wrong), [REFUSED] * 4)
        self.assertEqual(behind([start(), tooth(100)], wrong), [REFUSED] * 4)
        self.assertEqual(behind([start(), tooth(2 ** 62 - 2)], [tick(2 ** 62), tick(2 ** 62 - 1)]), [REFUSED, [0]])

    def test_just_below_the_end_of_times(self):
        self.assertEqual(behind([start(), tooth(100)], [tick(2 ** 62 - 1)]), [[1]])

    def test_a_tooth_that_was_refused_is_none(self):
        self.assertEqual(behind([start(), tooth(100), tooth(2 ** 62)], [tick(101)]), [[0]])
        self.assertEqual(behind([start(), tooth(2 ** 62)], [tick(0)]), [[0]])

    def test_leaves_all_as_it_was(self):
        wrong = [tick(ZERO), tick(0), tick(2 ** 62), tick(2 ** 64 - 1)]
        for end in (1, 4, 9, 35):
            before = running(end, fuel=flat(9))
            now = even(ZERO, D, end - 1, end)[0]
            more = [STATE] + teeth(even(ZERO, D, end, 140)) + [STATE]
            found = behind(before, wrong + [tick(now)] + more)
            self.assertEqual(found[:5], [REFUSED] * 5)
            self.assertEqual(found[5:], behind(before, more))


class NotLate(unittest.TestCase):
    def test_no_tooth(self):
        ticks = [tick(0), tick(1), tick(WAIT), tick(WAIT + 1), tick(2 ** 62 - 1), tick(0)]
        self.assertEqual(behind([start()], ticks + [STATE]), [[0]] * 6 + [NOTHING_KNOWN])

    def test_no_tooth_behind_another_start(self):
        self.assertEqual(behind(running(4) + [start()], [tick(0), tick(2 ** 62 - 1)]), [[0], [0]])

    def test_just_the_longest_wait(self):
        for t in (0, 1, 12345, 2 ** 62 - WAIT - 2):
            self.assertEqual(behind([start(), tooth(t)], [tick(t + 1), tick(t + WAIT - 1), tick(t + WAIT)]), [[0]] * 3)
            self.assertEqual(behind([start(), tooth(t)], [tick(t + WAIT + 1)]), [[1]])

    def test_from_the_last_tooth_on(self):
        # Not from the first one on, and not from the last tick on.
        before = [start(), tooth(0), tooth(1000)]
        self.assertEqual(behind(before, [tick(WAIT + 1), tick(WAIT + 999), tick(WAIT + 1000), tick(WAIT + 1001)]),
                         [[0], [0], [0], [1]])

    def test_nothing_has_changed(self):
        for end in (1, 4, 9, 35):
            before = running(end, fuel=flat(9))
            now = even(ZERO, D, end - 1, end)[0]
            more = [STATE] + teeth(even(ZERO, D, end, 140)) + [STATE]
            found = behind(before, [tick(now + 1), tick(now + WAIT), tick(now + 2)] + more)
            self.assertEqual(found, [[0]] * 3 + behind(before, more))

    def test_its_time_is_none_of_a_tooth(self):
        # A tooth, and a tick, may come ahead of the tick's time.
        now = ZERO + 3 * D
        found = behind(running(4), [tick(now + 5 * D), tick(now + 1), tooth(now + D), STATE])
        self.assertEqual(found, [[0], [0], [1], [0, 1, 0, 0, 0, 4, 0]])

    def test_cam_told_stays(self):
        lead = perhaps_last(ZERO, D)
        found = ask([start()] + lead + [CAM, tick(ZERO - 1), tooth(ZERO)])
        self.assertEqual(found[-1][0], 1)

    def test_off_later_than_it_stays(self):
        # Cylinder 0 is to be off at 107400, and stays so.
        now = ZERO + 3 * D
        found = behind(running(4), [tick(now + 1), STATE, tooth(now + 2 * D)])
        self.assertEqual(found, [[0], [0, 1, 0, 0, 0, 3, 0], [0, 2, 0, now + 2 * D]])


class Late(unittest.TestCase):
    def test_goes_off_softly(self):
        before = slow_running()
        self.assertEqual(told_of(ask(before)[-1:], 2), [(ON, 2, SLOW_LAST + 1168875), (SOFT, 2, SLOW_LAST + 1173875),
                                                        (SPARK, 2, SLOW_LAST + 1171875)])
        t = SLOW_LAST + WAIT + 1
        self.assertEqual(behind(before, [tick(t - 1), tick(t), STATE]), [[0], [1, 2, 2, t], NOTHING_KNOWN])

    def test_off_just_then_is_not_later(self):
        off = SLOW_LAST + 1171875
        for t, answer in ((off - 1, [1, 2, 2, off - 1]), (off, [1]), (off + 1, [1])):
            self.assertEqual(behind(slow_running(), [tick(t)]), [answer])

    def test_its_off_is_the_ticks_time(self):
        # So it isn't later than a tooth at that time, but it is later than a tooth ahead of it.
        t = SLOW_LAST + WAIT + 1
        self.assertEqual(behind(slow_running(), [tick(t), tooth(t)]), [[1, 2, 2, t], [0]])
        self.assertEqual(behind(slow_running(), [tick(t), tooth(t + 1)]), [[1, 2, 2, t], [0]])
        found = behind(slow_running(), [tick(t), tooth(t - 1)])
        self.assertEqual(told_of(found[1:], 2), [(SOFT, 2, t - 1)])

    def test_off_that_is_not_later_stays(self):
        # Cylinder 0 is off at 105400, its spark's time; a tooth ahead of that is behind nothing that was told.
        t = ZERO + 8 * D + WAIT + 1
        self.assertEqual(behind(running(9), [tick(t), tooth(105399)]), [[1], [0, 2, 0, 105399]])
        self.assertEqual(behind(running(9), [tick(t), tooth(105400)]), [[1], [0]])

    def test_of_each_cylinder_in_order(self):
        # No wheel brings more than one so far; so they are set here.
        engine = Engine()
        engine.start(3000, 5000, flat(100), flat(0))
        engine.tooth(10)
        t = 10 + WAIT + 1
        for cylinder, off, phase in zip(engine.cylinders, (t + 5, t, t + 1, t + 9), (1, 2, 2, 0)):
            cylinder.off = off
            cylinder.phase = phase
        self.assertEqual(engine.tick(t), [1, 2, 0, t, 2, 2, t, 2, 3, t])
        self.assertEqual([cylinder.off for cylinder in engine.cylinders], [t] * 4)
        self.assertEqual([cylinder.phase for cylinder in engine.cylinders], [0] * 4)

    def test_all_are_idle(self):
        # Cylinder 0 on, then done.
        for end, phase in ((4, 1), (9, 2)):
            t = ZERO + (end - 1) * D + WAIT + 1
            found = behind(running(end), [STATE, tick(t), STATE])
            self.assertEqual(found, [[0, phase, 0, 0, 0, end - 1, 0], [1], NOTHING_KNOWN])

    def test_only_once(self):
        # Behind it there was no tooth any more.
        t = ZERO + 3 * D + WAIT + 1
        self.assertEqual(behind(running(4), [tick(t), tick(t), tick(t + WAIT + 1), tick(0)]), [[1], [0], [0], [0]])

    def test_where_the_crank_is_not_known(self):
        for lead in ([tooth(ZERO)], perhaps_last(ZERO + D, D), perhaps_last(ZERO + D, D) + [tooth(ZERO + D)]):
            t = ZERO + D + WAIT + 1
            self.assertEqual(behind([start()] + lead, [tick(t), STATE]), [[1], NOTHING_KNOWN])


class AsIfNoTooth(unittest.TestCase):
    """Behind a tick that answers 1 it is as if no tooth had gone by; what start and load told stays."""

    LATE = tick(ZERO + 3 * D + WAIT + 1)

    def test_next_tooth_may_come_at_any_time(self):
        for t in (0, 1, ZERO, ZERO + 3 * D, ZERO + 4 * D, 2 ** 62 - 1):
            found = behind(running(4), [self.LATE, tooth(t), tooth(t), STATE])
            self.assertEqual([answer[0] for answer in found], [1, 0, -22, 0])
            self.assertEqual(found[-1], NOTHING_KNOWN)

    def test_next_tooth_is_refused_from_the_end_of_times_on(self):
        self.assertEqual(behind(running(4), [self.LATE, tooth(2 ** 62), tooth(0)])[1], REFUSED)

    def test_an_earlier_tooth_tells_off_what_is_later(self):
        # Cylinders 0 to 3 were off at their sparks' times, each later than 0.
        before = running(70)
        late = tick(ZERO + 71 * D + WAIT + 1)
        self.assertEqual(behind(before, [late, tooth(0), tooth(1)]),
                         [[1], [0, 2, 0, 0, 2, 1, 0, 2, 2, 0, 2, 3, 0], [0]])

    def test_next_tooth_counts_as_the_first(self):
        # It comes just when tooth 4 would, but has no interval; so the next sees no gap.
        now = ZERO + 3 * D
        found = behind(running(4), [self.LATE, tooth(now + D), tooth(now + 10 * D), STATE])
        self.assertEqual([answer[0] for answer in found], [1, 0, 0, 0])
        again = now + 100 * D
        lead = known(again, D)
        # A wheel's lead needs both of its first two teeth again.
        self.assertEqual(behind(running(4), [self.LATE] + lead)[-1][0], 1)
        self.assertEqual(behind(running(4), [self.LATE] + lead[1:])[-1][0], 0)

    def test_cam_told_ahead_of_it_does_not_count(self):
        zero = ZERO + 200 * D
        lead = [call for call in known(zero, D) if call != CAM]
        for cams in ([CAM, self.LATE], [self.LATE, CAM]):
            self.assertEqual(behind(running(4), cams + lead + [STATE])[-2:], [[0], [0, 0, 0, 0, 0, 0, 2]])

    def test_turn_is_not_known_any_more(self):
        # Without a cam it would be turn 1, if turn 0 were still known.
        zero = ZERO + 200 * D
        lead = [call for call in known(zero, D) if call != CAM]
        for k in range(1, 35):
            self.assertEqual(behind(running(4), [self.LATE] + lead + teeth(even(zero, D, 1, k)))[-1], [0])

    def test_goes_on_as_new(self):
        how = dict(dwell=1000, most=1500, advance=by_column(range(100, 260, 10)), fuel=by_column(range(50, 66)))
        before = running(9, **how)
        late = tick(ZERO + 8 * D + WAIT + 1)
        zero = ZERO + 300 * D
        again = known(zero, D) + teeth(even(zero, D, 1, 70)) + [CAM] + teeth(even(zero, D, 70, 141)) + [STATE]
        fresh = [start(**how)]
        self.assertEqual(behind(before + [late], again), behind(fresh, again))
        self.assertIn([1, 3, 2, zero + 6400, 4, 2, zero + 6450], behind(fresh, again))

    def test_load_stays(self):
        how = dict(dwell=1000, most=1500, advance=by_column(range(100, 260, 10)), fuel=by_column(range(50, 66)))
        late = tick(ZERO + 8 * D + WAIT + 1)
        zero = ZERO + 300 * D
        again = known(zero, D) + teeth(even(zero, D, 1, 70))
        fresh = [start(**how), load(1280)]
        found = behind(running(9, **how) + [load(1280), late], again)
        self.assertEqual(found, behind(fresh, again))
        self.assertEqual([t for what, c, t in told_of(found, 2) if what in (OPENS, CLOSES)],
                         [zero + 6400, zero + 6455])

    def test_no_going_on_before_the_ticks_time_where_that_is_its_off(self):
        # Teeth that come behind a tick at an earlier time: the first of them brings the off with it.
        t = SLOW_LAST + WAIT + 1
        zero = ZERO
        found = behind(slow_running() + [tick(t)], known(zero, D) + teeth(even(zero, D, 1, 36)))
        self.assertEqual(told_of(found[:1], 2), [(SOFT, 2, zero - 39 * D)])
        self.assertEqual([what for what, c, t in told_of(found[1:], 2)], [ON, SOFT, SPARK])


if __name__ == "__main__":
    unittest.main()
