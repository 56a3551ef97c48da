"""What holds: on wheels that turn unevenly, stop, lose teeth and get them wrong."""

import random
import unittest

from drive import CAM, ON, OPENS, SOFT, SPARK, ask, even, flat, known, start, teeth, told, tooth


class Coil:
    """What is done when it is told to be done: one time to go on, and one to go off, that haven't come."""

    def __init__(self):
        self.on_at = None
        self.off_at = None
        self.since = None
        self.longest = 0

    def tell(self, what, t):
        if what == ON:
            self.on_at = t
        else:
            self.off_at = t

    def run_to(self, now):
        while True:
            due = [t for t in (self.on_at, self.off_at) if t is not None and t <= now]
            if not due:
                break
            if self.off_at == min(due):
                self.go_off()
            else:
                self.since = self.on_at if self.since is None else self.since
                self.on_at = None

    def go_off(self):
        if self.since is not None:
            self.longest = max(self.longest, self.off_at - self.since)
        self.since = None
        self.off_at = None
        # A time to go on that hasn't come isn't any more.
        self.on_at = None


def rough_table(rand, top):
    lines = [rand.randrange(top + 1) for line in range(16)]
    return [lines[place // 16] if rand.random() < 0.9 else rand.randrange(top + 1) for place in range(256)]


def rough_wheel(rand):
    """Calls of teeth and cams: mostly as a wheel turns, at a changing pace, with faults thrown in."""
    t = rand.randrange(1000)
    d = rand.choice((1, 5, 60, 300, 640, 2000, 30000, 400000))
    calls = [tooth(t)]
    for place in range(rand.choice((300, 600))):
        if place % 36 == 35:
            t += d
            continue
        d = max(1, d * rand.randrange(90, 112) // 100)
        fault = rand.random()
        if fault < 0.004:
            t += 2 ** 20 + 1
        elif fault < 0.01:
            d = max(1, d // 4)
        elif fault < 0.012:
            t += 2 * d
        elif fault < 0.014:
            calls.append(tooth(t))
        t += min(d, 2 ** 19)
        if place % 72 == 20 and rand.random() < 0.95:
            calls.append(CAM)
        calls.append(tooth(t))
    return calls


def rough_start(rand):
    most = rand.choice((1, 500, 5000, 65536))
    dwell = most if rand.random() < 0.3 else rand.randrange(1, most + 1)
    advance = flat(rand.randrange(1025)) if rand.random() < 0.4 else rough_table(rand, 1024)
    return dwell, most, start(dwell, most, advance, rough_table(rand, 32767))


class Rough(unittest.TestCase):
    def runs(self):
        for seed in range(150):
            rand = random.Random(seed)
            dwell, most, first = rough_start(rand)
            calls = rough_wheel(rand)
            yield seed, dwell, most, list(zip(calls, ask([first] + calls)[1:]))

    def test_runs_are_worth_it(self):
        whats = [what for seed, dwell, most, run in self.runs() for call, answer in run for what, c, t in told(answer)]
        for what in range(5):
            self.assertGreater(whats.count(what), 500)

    def test_nothing_goes_on_or_opens_where_it_is_not_known(self):
        for seed, dwell, most, run in self.runs():
            for call, answer in run:
                if answer[0] != 1:
                    self.assertTrue(all(what == SOFT and t == call[1] for what, c, t in told(answer)), seed)

    def test_no_coil_is_on_too_long(self):
        for seed, dwell, most, run in self.runs():
            coils = [Coil() for c in range(4)]
            for call, answer in run:
                for coil in coils:
                    coil.run_to(call[1] if call != CAM and answer != [-22] else 0)
                for what, c, t in told(answer):
                    if what < OPENS:
                        coils[c].tell(what, t)
            for coil in coils:
                coil.run_to(2 ** 63)
                self.assertIsNone(coil.since)
                self.assertLessEqual(coil.longest, most, seed)

    def test_going_on_has_its_soft_going_off_and_one_spark_at_most(self):
        for seed, dwell, most, run in self.runs():
            may_spark = [False] * 4
            for call, answer in run:
                each = told(answer)
                for k, (what, c, t) in enumerate(each):
                    if what == ON:
                        self.assertEqual(each[k + 1], (SOFT, c, t + most))
                        self.assertGreaterEqual(t, call[1])
                        may_spark[c] = True
                    elif what == SPARK:
                        self.assertTrue(may_spark[c], seed)
                        self.assertGreaterEqual(t, call[1])
                        may_spark[c] = False
                    elif what == SOFT and answer[0] == 0:
                        may_spark[c] = False


class Even(unittest.TestCase):
    def test_each_spark_and_going_on_in_time(self):
        for d in (1, 7, 64, 273, 641, 5000, 29127, 2 ** 19):
            for advance in (0, 1, 63, 64, 639, 640, 641, 704, 1023, 1024):
                for dwell in (1, 900, 65536):
                    with self.subTest(d=d, advance=advance, dwell=dwell):
                        self.check(d, advance, dwell)

    def check(self, d, advance, dwell):
        zero = 2 ** 40
        calls = [start(dwell, 65536, flat(advance))] + known(zero, d) + teeth(even(zero, d, 1, 70))
        calls += [CAM] + teeth(even(zero, d, 70, 140))
        found = [each for answer in ask(calls) for each in told(answer)]
        sparks = {}
        for what, c, t in found:
            if what == SPARK:
                sparks.setdefault(c, []).append(t)
        for c in range(4):
            position = (1152 * c + 640 - advance) % 4608
            due = [zero + d * (position + 4608 * k) // 64 for k in range(2)]
            on_times = [t for what, cylinder, t in found if (what, cylinder) == (ON, c)]
            for spark, on_time in zip(due, on_times):
                if spark - on_time <= 65536:
                    self.assertIn(spark, sparks[c])
                self.assertGreaterEqual(on_time, spark - dwell)
            self.assertLessEqual(len(sparks.get(c, [])), 2)
            self.assertTrue(set(sparks.get(c, [])) <= set(due))


if __name__ == "__main__":
    unittest.main()
