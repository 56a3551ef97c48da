"""Promise 1: start."""

import unittest

from drive import CAM, REFUSED, ask, even, flat, known, start, teeth, tooth


def with_one(number, place, other):
    table = flat(other)
    table[place] = number
    return table


class StartAnswers(unittest.TestCase):
    def answer(self, **how):
        return ask([start(**how)])[0]

    def test_ordinary(self):
        self.assertEqual(self.answer(dwell=3000, most=5000), [0])

    def test_dwell(self):
        self.assertEqual(self.answer(dwell=0, most=5000), REFUSED)
        self.assertEqual(self.answer(dwell=0, most=0), REFUSED)
        self.assertEqual(self.answer(dwell=1, most=5000), [0])
        self.assertEqual(self.answer(dwell=1, most=0), REFUSED)
        self.assertEqual(self.answer(dwell=5001, most=5000), REFUSED)
        self.assertEqual(self.answer(dwell=2 ** 32 - 1, most=5000), REFUSED)

    def test_dwell_and_most_alike(self):
        self.assertEqual(self.answer(dwell=5000, most=5000), [0])
        self.assertEqual(self.answer(dwell=1, most=1), [0])
        self.assertEqual(self.answer(dwell=65536, most=65536), [0])

    def test_most(self):
        self.assertEqual(self.answer(most=65535), [0])
        self.assertEqual(self.answer(most=65536), [0])
        self.assertEqual(self.answer(most=65537), REFUSED)
        self.assertEqual(self.answer(dwell=65537, most=65537), REFUSED)
        self.assertEqual(self.answer(most=2 ** 32 - 1), REFUSED)

    def test_advance(self):
        for place in (0, 1, 100, 255):
            for number, answer in ((-32768, REFUSED), (-1, REFUSED), (0, [0]), (1024, [0]),
                                   (1025, REFUSED), (32767, REFUSED)):
                with self.subTest(place=place, number=number):
                    self.assertEqual(self.answer(advance=with_one(number, place, 500)), answer)

    def test_fuel(self):
        for place in (0, 1, 100, 255):
            for number, answer in ((-32768, REFUSED), (-1, REFUSED), (0, [0]), (1025, [0]), (32767, [0])):
                with self.subTest(place=place, number=number):
                    self.assertEqual(self.answer(fuel=with_one(number, place, 500)), answer)


class StartAgain(unittest.TestCase):
    ZERO = 100000
    D = 640

    def running(self):
        """Up to tooth 3, at which cylinder 0 is told to go on."""
        return [start()] + known(self.ZERO, self.D) + teeth(even(self.ZERO, self.D, 1, 4))

    def test_refused_at_first_and_then_taken(self):
        calls = [start(dwell=0), start(advance=flat(-1)), start(fuel=flat(-1)), start(), tooth(5)]
        self.assertEqual(ask(calls), [REFUSED, REFUSED, REFUSED, [0], [0]])

    def test_refused_leaves_all_as_it_was(self):
        behind = teeth(even(self.ZERO, self.D, 4, 200))
        plain = ask(self.running() + behind)
        for refused in (start(dwell=0), start(dwell=9, most=8), start(most=65537),
                        start(dwell=7, most=9, advance=flat(1025), fuel=flat(77)),
                        start(dwell=7, most=9, advance=flat(5), fuel=flat(-1))):
            before = self.running()
            found = ask(before + [refused] + behind)
            self.assertEqual(found[len(before)], REFUSED)
            self.assertEqual(found[:len(before)] + found[len(before) + 1:], plain)

    def test_refused_leaves_the_cam_told(self):
        lead = known(self.ZERO, self.D)
        self.assertEqual(ask([start()] + lead[:-1] + [start(dwell=0)] + lead[-1:])[-1][0], 1)

    def test_taken_begins_anew(self):
        before = self.running()
        self.assertEqual(ask(before)[-1], [1, 0, 0, 102400, 2, 0, 107400])
        # The coil's time to be off is forgotten, so nothing is told; the first tooth may be at any time.
        found = ask(before + [start(), tooth(0), tooth(1)])
        self.assertEqual(found[len(before):], [[0], [0], [0]])

    def test_taken_forgets_where_the_crank_was(self):
        before = self.running()
        found = ask(before + [start()] + teeth(even(self.ZERO, self.D, 4, 34)))
        self.assertEqual(found[len(before):], [[0]] * 31)

    def test_taken_forgets_the_cylinders(self):
        again = [start(advance=flat(90), fuel=flat(10))] + known(self.ZERO, self.D)
        again += teeth(even(self.ZERO, self.D, 1, 150))
        before = self.running()
        self.assertEqual(ask(before + again)[len(before):], ask(again))

    def test_taken_takes_the_new_numbers(self):
        fresh = start(dwell=1000, most=1500, advance=flat(200), fuel=flat(10))
        found = ask([start(), fresh] + known(self.ZERO, self.D) + teeth(even(self.ZERO, self.D, 1, 11)))
        # Position 440 comes 4400 behind tooth 0.
        self.assertIn([1, 0, 0, self.ZERO + 3400, 2, 0, self.ZERO + 4900], found)
        self.assertIn([1, 1, 0, self.ZERO + 4400], found)
        self.assertIn([1, 3, 2, self.ZERO + 6400, 4, 2, self.ZERO + 6410], found)

    def test_taken_forgets_the_cam(self):
        lead = known(self.ZERO, self.D)
        before = [start()] + lead + [CAM, start()]
        again = [call for call in lead if call != CAM]
        self.assertEqual(ask(before + again)[len(before):], [[0]] * len(again))


if __name__ == "__main__":
    unittest.main()
