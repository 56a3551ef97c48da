"""All calls, right and wrong, in rough order: each is answered as the document's words have it, done one by one."""

import random
import unittest

from drive import CAM, STATE, ask, flat, load, start, tick, tooth
from plain import Plain

WRONG_STARTS = (start(dwell=0), start(dwell=6, most=5), start(most=65537), start(dwell=2 ** 32 - 1, most=2 ** 32 - 1),
                start(advance=flat(-1)), start(advance=flat(1025)), start(fuel=flat(-1)))


def any_table(rand, top):
    kind = rand.randrange(4)
    if kind == 0:
        return flat(rand.randrange(top + 1))
    if kind == 1:
        return [rand.choice((0, top)) for place in range(256)]
    # Near numbers, so that many cylinders go through all they can.
    middle = rand.randrange(top + 1)
    return [min(top, max(0, middle + rand.randrange(-60, 61))) for place in range(256)]


def any_start(rand):
    most = rand.choice((1, 2, 500, 5000, 65535, 65536))
    dwell = rand.choice((1, most, rand.randrange(1, most + 1)))
    return start(dwell, most, any_table(rand, 1024), any_table(rand, rand.choice((0, 1, 32767))))


def any_other(rand, t):
    """A call that isn't a tooth of the wheel, about the time t."""
    kind = rand.random()
    if kind < 0.3:
        return load(rand.choice((0, 256, 3839, 3840, 3841, 2 ** 32 - 1, rand.randrange(3841))))
    if kind < 0.6:
        near = (t - 1, t, t + 1, t + 2 ** 20 - 1, t + 2 ** 20, 0, 2 ** 62 - 1, 2 ** 62, 2 ** 64 - 1)
        # Those that lose the crank are rare.
        far = (t + 2 ** 20 + 1, t + 2 ** 20 + rand.randrange(1, 70000))
        return tick(max(0, rand.choice(far if rand.random() < 0.03 else near[:6] + near[7:])))
    if kind < 0.65:
        return tooth(rand.choice((0, t, 2 ** 62, 2 ** 64 - 1)))
    if kind < 0.66:
        return rand.choice(WRONG_STARTS)
    return STATE


def wheel(rand, t, turns):
    """The teeth of some turns from t on, with the cam and other calls among them."""
    calls = []
    d = rand.choice((1, 3, 50, 273, 640, 1024, 4096, 60000, 500000))
    for place in range(36 * turns):
        d = max(1, d + rand.choice((0, 0, 0, d // 20, -d // 20, d // 4, -d // 4)))
        t += d
        if place % 36 == 35:
            continue
        if place % 72 == 3 and rand.random() < 0.97:
            calls.append(CAM)
        if rand.random() < 0.004:
            t += rand.choice((d, d // 2, 2 ** 20, 2 ** 20 + 1))
        calls.append(tooth(t))
        while rand.random() < 0.3:
            calls.append(any_other(rand, t))
    return calls, t


def rough_calls(rand):
    calls = [rand.choice(WRONG_STARTS) for k in range(rand.randrange(3))]
    for begun in range(rand.choice((1, 1, 2))):
        calls.append(any_start(rand))
        t = rand.choice((0, 5, 10 ** 6, 2 ** 40, 2 ** 62 - 10 ** 7))
        for part in range(2):
            more, t = wheel(rand, t, rand.randrange(3, 7))
            calls += more
            if rand.random() < 0.5:
                # Behind this tick the wheel begins anew, at an earlier time even.
                calls.append(tick(min(t + 2 ** 20 + rand.randrange(1, 9), 2 ** 62 - 1)))
                t = max(0, t + rand.choice((-10 ** 6, -1, 0, 10 ** 6)))
    return calls


class AsTheWordsHaveIt(unittest.TestCase):
    def test_all_calls(self):
        seen = {}
        for seed in range(120):
            calls = rough_calls(random.Random(seed))
            plain = Plain()
            for number, (call, answer) in enumerate(zip(calls, ask(calls))):
                self.assertEqual(answer, plain.call(call), (seed, number, call[:3]))
                seen[call[0], answer[0]] = seen.get((call[0], answer[0]), 0) + 1
        for each in ((0, -22), (0, 0), (1, -22), (1, 0), (1, 1), (2, 0), (3, -22), (3, 0), (4, -22), (4, 0), (4, 1),
                     (5, 0)):
            self.assertGreater(seen.get(each, 0), 50, each)


if __name__ == "__main__":
    unittest.main()
