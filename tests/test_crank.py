"""Promises 2 and 3: where the crank is, and which turn, as the teeth's answers tell it."""

import unittest

from drive import CAM, REFUSED, ask, even, flat, known, perhaps_last, start, teeth, tooth
from enginetimes.crank import PERHAPS, SURELY, UNKNOWN, Crank

ZERO = 100000
D = 640


def firsts(calls):
    """The first number of each answer; start's is left out."""
    return [answer[0] for answer in ask([start()] + calls)][1:]


class Refused(unittest.TestCase):
    def test_time_not_above_the_last(self):
        self.assertEqual(firsts(teeth([10, 10, 9, 0, 11, 11])), [0, -22, -22, -22, 0, -22])

    def test_time_too_great(self):
        self.assertEqual(ask([start()] + teeth([2 ** 62, 2 ** 64 - 1, 2 ** 62 - 1, 2 ** 62])),
                         [[0], REFUSED, REFUSED, [0], REFUSED])

    def test_first_tooth_at_0(self):
        self.assertEqual(firsts(teeth([0, 0, 1])), [0, -22, 0])

    def test_refused_leaves_all_as_it_was(self):
        lead = known(ZERO, D)
        behind = teeth(even(ZERO, D, 1, 140))
        plain = ask([start()] + lead + behind)
        wrong = [tooth(ZERO), tooth(0), tooth(2 ** 62)]
        found = ask([start()] + lead + wrong + behind)
        place = 1 + len(lead)
        self.assertEqual(found[place:place + 3], [REFUSED] * 3)
        self.assertEqual(found[:place] + found[place + 3:], plain)

    def test_refused_leaves_the_cam_told(self):
        lead = known(ZERO, D)
        wrong = tooth(ZERO - 2 * D)
        self.assertEqual(firsts(lead[:-1] + [wrong] + lead[-1:])[-2:], [-22, 1])

    def test_near_the_end_of_times(self):
        zero = 2 ** 62 - 1 - 10 * D
        found = ask([start()] + known(zero, D) + teeth(even(zero, D, 1, 12)))
        self.assertEqual([answer[0] for answer in found[-12:]], [1] * 11 + [-22])
        self.assertEqual(found[-9], [1, 0, 0, zero + 2400, 2, 0, zero + 7400])


class Known(unittest.TestCase):
    def test_unknown_then_perhaps_then_surely(self):
        self.assertEqual(firsts(known(ZERO, D)), [0] * 38 + [1])
        self.assertEqual(firsts(known(ZERO, D) + teeth(even(ZERO, D, 1, 70))), [0] * 38 + [1] * 70)

    def test_first_tooth_has_no_interval_so_the_second_sees_no_gap(self):
        # Without the tooth at ZERO - 39 * D the gap that follows has nothing to be measured by.
        lead = known(ZERO, D)
        self.assertEqual(firsts(lead[1:]), [0] * 38)
        self.assertEqual(firsts(lead)[-1], 1)

    def test_gap_is_just_above_27_by_20(self):
        crank = Crank()
        for t in (0, 20, 47):
            crank.pass_tooth(t)
        self.assertEqual(crank.certainty, UNKNOWN)
        crank = Crank()
        for t in (0, 20, 48):
            crank.pass_tooth(t)
        self.assertEqual((crank.certainty, crank.place), (PERHAPS, 0))

    def test_perhaps_and_a_gap_too_early_is_perhaps_again(self):
        early = teeth([0, D, 3 * D, 4 * D, 5 * D, 7 * D])
        rest = teeth(even(7 * D, D, 1, 35)) + [CAM, tooth(43 * D)]
        self.assertEqual(firsts(early + rest)[-2:], [0, 1])
        # Counted from the first gap it would be surely known three teeth too early.
        short = teeth(even(7 * D, D, 1, 32)) + [CAM, tooth(40 * D)]
        self.assertEqual(firsts(early + short)[-1], 0)

    def test_perhaps_last_without_a_gap_is_unknown(self):
        lead = perhaps_last(ZERO, D) + [CAM, tooth(ZERO - D), CAM, tooth(ZERO + D)]
        # The gap behind it is the first one again.
        self.assertEqual(firsts(lead)[-1], 0)
        again = teeth(even(ZERO + D, D, 1, 35)) + [CAM, tooth(ZERO + 37 * D)]
        self.assertEqual(firsts(lead + again)[-1], 1)

    def test_surely_and_a_gap_too_early_is_perhaps(self):
        lead = known(ZERO, D) + teeth(even(ZERO, D, 1, 11))
        early = ZERO + 12 * D
        self.assertEqual(firsts(lead + [tooth(early)])[-2:], [1, 0])
        again = teeth(even(early, D, 1, 35)) + [CAM, tooth(early + 36 * D)]
        self.assertEqual(firsts(lead + [tooth(early)] + again)[-36:], [0] * 35 + [1])

    def test_surely_last_but_one_and_a_gap_is_perhaps(self):
        lead = known(ZERO, D) + teeth(even(ZERO, D, 1, 34))
        self.assertEqual(firsts(lead + [CAM, tooth(ZERO + 35 * D)])[-1], 0)

    def test_surely_last_without_a_gap_is_unknown(self):
        lead = known(ZERO, D) + teeth(even(ZERO, D, 1, 35))
        lost = [CAM, tooth(ZERO + 35 * D)]
        self.assertEqual(firsts(lead + lost)[-3:], [1, 0, 0])
        self.assertEqual(firsts(lead + lost + [CAM, tooth(ZERO + 37 * D)])[-1], 0)

    def test_interval_of_just_the_longest(self):
        d = 2 ** 19
        zero = 2 ** 30
        # The gap's interval is 2^20 here, and still counts.
        self.assertEqual(firsts(known(zero, d))[-1], 1)
        self.assertEqual(firsts(known(zero, d)[:-1] + [tooth(zero + 1)])[-1], 0)

    def test_interval_above_the_longest_loses_all(self):
        lead = known(ZERO, D) + teeth(even(ZERO, D, 1, 6))
        last = ZERO + 5 * D
        self.assertEqual(firsts(lead + [tooth(last + 2 ** 20 + 1)])[-1], 0)
        long_one = Crank()
        for t in (0, 10, 30):
            long_one.pass_tooth(t)
        self.assertEqual(long_one.certainty, PERHAPS)
        long_one.pass_tooth(30 + 2 ** 20 + 1)
        self.assertEqual((long_one.certainty, long_one.interval), (UNKNOWN, None))

    def test_behind_too_long_an_interval_a_tooth_is_the_first(self):
        far = ZERO + 2 ** 20 + 1
        # The tooth at far has no interval, so the one behind it sees no gap, however long it waits.
        crank = Crank()
        for t in (ZERO - D, ZERO, far, far + 2 ** 20):
            crank.pass_tooth(t)
        self.assertEqual((crank.certainty, crank.interval), (UNKNOWN, 2 ** 20))
        zero = far + 39 * D
        lead = [start()] + known(ZERO, D)
        self.assertEqual([answer[0] for answer in ask(lead + known(zero, D))][-39:], [0] * 38 + [1])
        self.assertEqual([answer[0] for answer in ask(lead + [tooth(far)] + known(zero, D)[2:])][-1], 0)

    def test_just_the_longest_is_no_loss(self):
        crank = Crank()
        for t in (0, 10, 30, 40):
            crank.pass_tooth(t)
        self.assertEqual((crank.certainty, crank.place), (PERHAPS, 1))
        crank.pass_tooth(40 + 2 ** 20)
        self.assertEqual((crank.certainty, crank.place, crank.interval), (PERHAPS, 0, 2 ** 20))


class Turn(unittest.TestCase):
    """On an even wheel; an answer of 0 at a tooth that is surely known says the turn is not."""

    def turns(self, cams, turns):
        """The first numbers at each turn's tooth 0; cams are the teeth behind which the cam is told."""
        calls = perhaps_last(ZERO, D)
        zeros = []
        for n, t in enumerate(even(ZERO, D, 0, 35 * turns)):
            if n - 1 in cams:
                calls.append(CAM)
            if n % 35 == 0:
                zeros.append(len(calls))
            calls.append(tooth(t))
        found = firsts(calls)
        return [found[place] for place in zeros]

    def test_cam_answers_0(self):
        self.assertEqual(ask([start(), CAM, CAM, tooth(1), CAM]), [[0]] * 5)

    def test_never_told(self):
        self.assertEqual(self.turns((), 4), [0, 0, 0, 0])

    def test_told_ahead_of_the_first(self):
        self.assertEqual(self.turns((-1,), 4), [1, 1, 0, 0])

    def test_told_once_in_two_turns(self):
        self.assertEqual(self.turns((-1, 69, 139), 6), [1, 1, 1, 1, 1, 1])
        self.assertEqual(self.turns((-1, 35, 120), 6), [1, 1, 1, 1, 1, 1])

    def test_told_anywhere_in_the_turn(self):
        for behind in (0, 1, 17, 33, 34):
            self.assertEqual(self.turns((behind,), 4), [0, 1, 1, 0])
        self.assertEqual(self.turns((35,), 4), [0, 0, 1, 1])

    def test_told_each_turn_is_turn_0_each_time(self):
        calls = [start(fuel=flat(50))] + known(ZERO, D)
        for turn in range(3):
            zero = ZERO + 36 * D * turn
            calls += teeth(even(zero, D, 1, 20)) + [CAM] + teeth(even(zero, D, 20, 36))
        valves = [tuple(answer[k:k + 2]) for answer in ask(calls) for k in range(1, len(answer), 3)]
        # Cylinders 2 and 3 have their valves in turn 0, cylinders 0 and 1 in turn 1.
        self.assertEqual([c for what, c in valves if what == 3], [2, 3, 2, 3, 2, 3])

    def test_told_while_only_perhaps_known_is_too_early(self):
        lead = perhaps_last(ZERO, D)
        self.assertEqual(firsts(lead[:-1] + [CAM] + lead[-1:] + [tooth(ZERO)])[-1], 0)
        self.assertEqual(firsts([CAM] + lead + [tooth(ZERO)])[-1], 0)
        self.assertEqual(firsts(lead + [CAM, tooth(ZERO)])[-1], 1)

    def test_told_twice_is_told(self):
        lead = perhaps_last(ZERO, D)
        self.assertEqual(firsts(lead + [CAM, CAM, tooth(ZERO)])[-1], 1)

    def test_lost_with_the_crank(self):
        crank = Crank()
        times = [0, 10, 30] + [30 + 10 * k for k in range(1, 35)]
        for t in times:
            crank.pass_tooth(t)
        crank.tell_cam()
        crank.pass_tooth(390)
        self.assertEqual((crank.certainty, crank.place, crank.turn), (SURELY, 0, 0))
        crank.pass_tooth(400)
        crank.tell_cam()
        crank.pass_tooth(420)
        self.assertEqual((crank.certainty, crank.place, crank.turn), (PERHAPS, 0, None))
        for k in range(1, 35):
            crank.pass_tooth(420 + 10 * k)
        crank.pass_tooth(780)
        # The cam was told ahead of teeth at which it was not surely known.
        self.assertEqual((crank.certainty, crank.place, crank.turn), (SURELY, 0, None))


if __name__ == "__main__":
    unittest.main()
