"""What holds, a to e: on wheels that turn unevenly, stop, lose teeth and get them wrong, and on even ones."""

import random
import unittest

from drive import CAM, ON, OPENS, SOFT, SPARK, STATE
from drive import ask, even, flat, known, load, start, teeth, tick, told, tooth

TOOTH_CALL, TICK_CALL = 1, 4


class Coil:
    """What is done when it is told to be done: one time to go on, and one to go off, that haven't come."""

    def __init__(self):
        self.on_at = None
        self.off_at = None
        self.since = None
        self.longest = 0

    def tell(self, what, t):
        if what == ON:
            self.on_at = t
        else:
            self.off_at = t

    def run_to(self, now):
        while True:
            due = [t for t in (self.on_at, self.off_at) if t is not None and t <= now]
            if not due:
                break
            if self.off_at == min(due):
                self.go_off()
            else:
                self.since = self.on_at if self.since is None else self.since
                self.on_at = None

    def go_off(self):
        if self.since is not None:
            self.longest = max(self.longest, self.off_at - self.since)
        self.since = None
        self.off_at = None
        # A time to go on that hasn't come isn't any more.
        self.on_at = None


def rough_table(rand, top):
    lines = [rand.randrange(top + 1) for line in range(16)]
    return [lines[place // 16] if rand.random() < 0.9 else rand.randrange(top + 1) for place in range(256)]


def between_teeth(rand, last, now):
    """Calls that may stand between a tooth at last and one at now; times don't fall."""
    calls = []
    if rand.random() < 0.06:
        calls.append(load(rand.choice((0, 256, 3840, 3841, 2 ** 32 - 1, rand.randrange(3841)))))
    if rand.random() < 0.06:
        calls.append(STATE)
    if rand.random() < 0.1:
        calls.append(tick(rand.randrange(last, now + 1)))
    if rand.random() < 0.005:
        calls.append(rand.choice((tick(2 ** 62), tooth(2 ** 63), start(dwell=0), start(fuel=flat(-1)))))
    return calls


def rough_wheel(rand):
    """Mostly as a wheel turns, at a changing pace, with faults thrown in, and all other calls between."""
    t = last = rand.randrange(1000)
    d = rand.choice((1, 5, 60, 300, 640, 2000, 30000, 400000))
    calls = [tooth(t)]
    for place in range(rand.choice((300, 600))):
        if place % 36 == 35:
            t += d
            continue
        d = max(1, d * rand.randrange(90, 112) // 100)
        fault = rand.random()
        if fault < 0.004:
            t += 2 ** 20 + 1
        elif fault < 0.01:
            d = max(1, d // 4)
        elif fault < 0.012:
            t += 2 * d
        elif fault < 0.014:
            calls.append(tooth(t))
        elif fault < 0.018:
            t = max(t, last + 2 ** 20 + rand.randrange(1, 2000))
            calls.append(tick(t))
        t += min(d, 2 ** 19)
        if place % 72 == 20 and rand.random() < 0.95:
            calls.append(CAM)
        calls += between_teeth(rand, max(last, t - d), t) + [tooth(t)]
        last = t
    return calls


def rough_start(rand):
    most = rand.choice((1, 500, 5000, 65536))
    dwell = most if rand.random() < 0.3 else rand.randrange(1, most + 1)
    advance = flat(rand.randrange(1025)) if rand.random() < 0.4 else rough_table(rand, 1024)
    return most, start(dwell, most, advance, rough_table(rand, 32767))


def doings(call, answer):
    return [] if call == STATE else told(answer)


def longest_on(run):
    """The longest that a coil is on, where what is told is done."""
    coils = [Coil() for c in range(4)]
    for call, answer in run:
        timed = call[0] in (TOOTH_CALL, TICK_CALL) and answer != [-22]
        for coil in coils:
            coil.run_to(call[1] if timed else 0)
        for what, c, t in doings(call, answer):
            if what < OPENS:
                coils[c].tell(what, t)
    for coil in coils:
        coil.run_to(2 ** 63)
    assert all(coil.since is None for coil in coils), "a coil stays on"
    return max(coil.longest for coil in coils)


class Rough(unittest.TestCase):
    @classmethod
    def setUpClass(cls):
        cls.runs = []
        for seed in range(150):
            rand = random.Random(seed)
            most, first = rough_start(rand)
            calls = rough_wheel(rand)
            cls.runs.append((seed, most, list(zip(calls, ask([first] + calls)[1:]))))

    def every(self):
        return [(call, answer) for seed, most, run in self.runs for call, answer in run]

    def test_runs_are_worth_it(self):
        whats = [what for call, answer in self.every() for what, c, t in doings(call, answer)]
        for what in range(5):
            self.assertGreater(whats.count(what), 500)
        firsts = [(call[0], answer[0]) for call, answer in self.every()]
        for each in ((0, -22), (1, -22), (1, 0), (1, 1), (2, 0), (3, -22), (3, 0), (4, -22), (4, 0), (4, 1), (5, 0)):
            self.assertGreater(firsts.count(each), 10, each)

    def test_a_nothing_goes_on_or_opens_where_it_is_not_known(self):
        for call, answer in self.every():
            if (call[0], answer[0]) != (TOOTH_CALL, 1):
                self.assertTrue(all(what == SOFT and t == call[1] for what, c, t in doings(call, answer)))

    def test_a_it_is_known_there_as_state_has_it(self):
        for seed, most, run in self.runs[:40]:
            first = rough_start(random.Random(seed))[1]
            calls = [call for call, answer in run if call != STATE]
            found = ask([first] + [call for each in calls for call in (each, STATE)])[1:]
            for call, answer, state in zip(calls, found[::2], found[1::2]):
                if (call[0], answer[0]) == (TOOTH_CALL, 1):
                    self.assertIn(state[5], range(35), seed)
                    self.assertIn(state[6], range(2), seed)
                elif call[0] == TOOTH_CALL and answer[0] == 0:
                    self.assertEqual(state[6], 2, seed)
                    self.assertEqual(state[1:5], [0] * 4, seed)

    def test_b_no_coil_is_on_too_long(self):
        for seed, most, run in self.runs:
            self.assertLessEqual(longest_on(run), most, seed)

    def test_c_going_on_has_its_soft_going_off_and_one_spark_at_most(self):
        for seed, most, run in self.runs:
            may_spark = [False] * 4
            for call, answer in run:
                each = doings(call, answer)
                for k, (what, c, t) in enumerate(each):
                    if what == ON:
                        self.assertEqual(each[k + 1], (SOFT, c, t + most))
                        self.assertGreaterEqual(t, call[1])
                        may_spark[c] = True
                    elif what == SPARK:
                        self.assertTrue(may_spark[c], seed)
                        self.assertGreaterEqual(t, call[1])
                        may_spark[c] = False
                    elif what == SOFT and each[k - 1][:2] != (ON, c):
                        may_spark[c] = False

    def test_state_changes_nothing(self):
        for seed, most, run in self.runs:
            first = rough_start(random.Random(seed))[1]
            plain = [(call, answer) for call, answer in run if call != STATE]
            self.assertEqual(ask([first] + [call for call, answer in plain])[1:], [answer for call, answer in plain])


class Stopping(unittest.TestCase):
    """A wheel that turns slower and slower, and is told to stand still when coils and sparks are told ahead."""

    ZERO = 2 ** 30
    MOST = 65536

    def slowing(self, end):
        times = [self.ZERO]
        d = 2 ** 19
        for n in range(1, end):
            d = min(d + 30000, 2 ** 20)
            times.append(times[-1] + d)
        return times

    def runs(self):
        for advance in range(0, 1025, 4):
            for end in (1, 20, 27, 34, 35):
                times = self.slowing(end)
                still = times[-1] + 2 ** 20 + 1 + 1000 * (advance % 7)
                calls = [start(self.MOST - 7, self.MOST, flat(advance))] + known(self.ZERO, 2 ** 19)
                calls += teeth(times[1:]) + [tick(still), tooth(still), tooth(still + 5)]
                yield list(zip(calls, ask(calls)))

    def test_b_no_coil_is_on_too_long(self):
        told_off = 0
        for run in self.runs():
            self.assertLessEqual(longest_on(run), self.MOST)
            call, answer = run[-3]
            self.assertEqual(answer[0], 1)
            self.assertTrue(all((what, t) == (SOFT, call[1]) for what, c, t in told(answer)))
            self.assertEqual(run[-2][1], [0])
            told_off += len(told(answer))
        self.assertGreater(told_off, 10, "nothing was told ahead")


class Even(unittest.TestCase):
    """The advance is one and the same; loads, ticks and states stand among the teeth."""

    ZERO = 2 ** 40
    CYCLES = 3

    def even_calls(self, d, first):
        calls = [first] + known(self.ZERO, d)
        for n, t in enumerate(even(self.ZERO, d, 1, 70 * self.CYCLES), 1):
            if n % 70 == 0:
                calls.append(CAM)
            if n % 7 == 0:
                calls += [load(19 * n % 3841), STATE, tick(t)]
            calls.append(tooth(t))
        return calls

    def told_in(self, calls):
        return [each for call, answer in zip(calls, ask(calls)) for each in doings(call, answer)]

    def due(self, d, c, advance, cycle):
        return self.ZERO + d * ((1152 * c + 640 - advance) % 4608 + 4608 * cycle) // 64

    def due_on(self, d, c, advance, cycle, dwell):
        """Dwell ahead of the spark, or at the first tooth that is 1152 ahead of it or less."""
        spark = (1152 * c + 640 - advance) % 4608 + 4608 * cycle
        place = -((1152 - spark) // 64)
        place += place % 36 == 35
        return max(self.due(d, c, advance, cycle) - dwell, self.ZERO + d * place)

    def check(self, d, advance, dwell):
        found = self.told_in(self.even_calls(d, start(dwell, 65536, flat(advance))))
        for c in range(4):
            sparks = [t for what, cylinder, t in found if (what, cylinder) == (SPARK, c)]
            on_times = [t for what, cylinder, t in found if (what, cylinder) == (ON, c)]
            sparks_due = [self.due(d, c, advance, cycle) for cycle in range(self.CYCLES)]
            self.assertEqual(sparks, sparks_due)
            on_due = [self.due_on(d, c, advance, cycle, dwell) for cycle in range(self.CYCLES + 1)]
            # Ahead of the first tooth 0 nothing goes on, and the last may be told before the end.
            on_due[0] = max(on_due[0], self.ZERO)
            self.assertEqual(on_times, on_due[:len(on_times)])
            self.assertIn(len(on_times), (self.CYCLES, self.CYCLES + 1))

    def test_e_each_spark_and_going_on_in_time(self):
        for d in (1, 7, 64, 273, 641, 5000, 29127, 2 ** 19):
            for advance in (0, 1, 63, 64, 639, 640, 641, 704, 1023, 1024):
                for dwell in (1, 900, 65536):
                    with self.subTest(d=d, advance=advance, dwell=dwell):
                        self.check(d, advance, dwell)

    def test_d_one_behind_another(self):
        for advance in (0, 100, 640, 641, 1024):
            calls = self.even_calls(640, start(advance=flat(advance)))
            sparks = [(t, c) for what, c, t in self.told_in(calls) if what == SPARK]
            self.assertEqual(len(sparks), 4 * self.CYCLES)
            for (t, c), (later, behind) in zip(sparks, sparks[1:]):
                self.assertEqual((later - t, behind), (11520, (c + 1) % 4))

    def test_b_dwell_and_most_alike(self):
        # Each spark comes just when the soft going off does, or the coil went on at a tooth behind dwell's time.
        for d in (1, 640, 5000):
            for most in (1, 900, 65536):
                found = self.told_in(self.even_calls(d, start(most, most, flat(100))))
                self.assertEqual([what for what, c, t in found].count(SPARK), 4 * self.CYCLES)


if __name__ == "__main__":
    unittest.main()
