"""Promise 6: state."""

import unittest

from drive import CAM, NOTHING_KNOWN, STATE
from drive import ask, by_line, even, flat, known, load, perhaps_last, start, teeth, tick, tooth

ZERO = 100000
D = 640
IDLE, ON, DONE = range(3)
NO_TOOTH, NO_TURN = 255, 2


def states(calls):
    """What state answers behind each of the calls; the calls answer as they would without it."""
    found = ask([call for each in calls for call in (each, STATE)])
    assert found[::2] == ask(calls), "state has changed something"
    return found[1::2]


def state_behind(calls):
    return ask(calls + [STATE])[-1]


def even_states(how, end, cams=()):
    """The states behind an even wheel's teeth from surely 0 on; cams are the teeth ahead of which the cam is told."""
    calls = [start(**how)] + known(ZERO, D)
    for n, t in enumerate(even(ZERO, D, 1, end), 1):
        calls += [CAM, tooth(t)] if n in cams else [tooth(t)]
    return [state for call, state in zip(calls, states(calls)) if call[0] == 1][-end:]


class WhereTheCrankIs(unittest.TestCase):
    def where(self, calls):
        return [state[5:] for state in states(calls)]

    def test_ahead_of_the_first_tooth(self):
        self.assertEqual(states([start()]), [NOTHING_KNOWN])
        self.assertEqual(states([start(), CAM, load(5), tick(7)]), [NOTHING_KNOWN] * 4)

    def test_unknown(self):
        self.assertEqual(states([start()] + teeth(range(0, 30000, 300))), [NOTHING_KNOWN] * 101)

    def test_perhaps(self):
        # The gap is seen at the third tooth, and it's perhaps known from there on.
        self.assertEqual(states([start()] + perhaps_last(ZERO, D)), [NOTHING_KNOWN] * 38)
        self.assertEqual(states([start()] + perhaps_last(ZERO, D) + [CAM])[-1], NOTHING_KNOWN)

    def test_surely_and_the_turn_not_known(self):
        calls = [start()] + perhaps_last(ZERO, D)
        found = self.where(calls + teeth(even(ZERO, D, 0, 105)))[len(calls):]
        self.assertEqual(found, [[k, NO_TURN] for k in range(35)] * 3)

    def test_surely_in_either_turn(self):
        found = [state[5:] for state in even_states({}, 140, cams=(50,))]
        self.assertEqual(found, [[k, turn] for turn in (0, 1, 0, 1) for k in range(35)])

    def test_turn_lost_without_a_cam(self):
        found = [state[5:] for state in even_states({}, 106)]
        self.assertEqual(found, [[k, turn] for turn in (0, 1, NO_TURN) for k in range(35)] + [[0, NO_TURN]])

    def test_turn_0_again_by_a_cam_in_turn_0(self):
        found = [state[5:] for state in even_states({}, 71, cams=(20,))]
        self.assertEqual(found, [[k, 0] for turn in (0, 1) for k in range(35)] + [[0, 1]])

    def test_turn_is_not_told_ahead_of_tooth_0(self):
        # The cam tells of the turn that begins behind it.
        found = [state[5:] for state in even_states({}, 71, cams=(41,))]
        self.assertEqual(found[34:43] + found[-2:], [[34, 0]] + [[k, 1] for k in range(8)] + [[34, 1], [0, 0]])

    def test_lost_by_a_gap_too_early(self):
        calls = [start()] + known(ZERO, D) + teeth(even(ZERO, D, 1, 6))
        self.assertEqual(self.where(calls + [tooth(ZERO + 7 * D)])[-2:], [[5, 0], [NO_TOOTH, NO_TURN]])

    def test_lost_by_a_tooth_too_many(self):
        calls = [start()] + known(ZERO, D) + teeth(even(ZERO, D, 1, 35))
        self.assertEqual(self.where(calls + [tooth(ZERO + 35 * D)])[-2:], [[34, 0], [NO_TOOTH, NO_TURN]])

    def test_lost_by_too_long_an_interval(self):
        calls = [start()] + known(ZERO, D)
        self.assertEqual(self.where(calls + [tooth(ZERO + 2 ** 20 + 1)])[-2:], [[0, 0], [NO_TOOTH, NO_TURN]])

    def test_lost_by_a_tick(self):
        calls = [start()] + known(ZERO, D) + teeth(even(ZERO, D, 1, 6))
        last = ZERO + 5 * D
        self.assertEqual(self.where(calls + [tick(last + 2 ** 20), tick(last + 2 ** 20 + 1)])[-3:],
                         [[5, 0], [5, 0], [NO_TOOTH, NO_TURN]])

    def test_found_again(self):
        calls = [start()] + known(ZERO, D) + [tooth(ZERO + 2 ** 20 + 1)] + known(2 ** 21, D)
        self.assertEqual(self.where(calls)[-3:], [[NO_TOOTH, NO_TURN], [NO_TOOTH, NO_TURN], [0, 0]])

    def test_begun_anew(self):
        calls = [start()] + known(ZERO, D) + teeth(even(ZERO, D, 1, 6))
        self.assertEqual(state_behind(calls), [0, ON, IDLE, IDLE, IDLE, 5, 0])
        self.assertEqual(state_behind(calls + [start(dwell=0)]), [0, ON, IDLE, IDLE, IDLE, 5, 0])
        self.assertEqual(state_behind(calls + [start()]), NOTHING_KNOWN)


class Cylinders(unittest.TestCase):
    def test_idle_on_done_and_idle_again(self):
        found = [state[1] for state in even_states({}, 70)]
        # Told to go on at tooth 3 and to spark at tooth 8; the next one is 2303 ahead or less from tooth 9 of turn 1.
        self.assertEqual(found, [IDLE] * 3 + [ON] * 5 + [DONE] * 36 + [IDLE] * 26)

    def test_each_in_its_place(self):
        found = even_states({}, 140, cams=(70,))
        # Positions 1152 apart are 18 places of the wheel; one of 36 has no tooth.
        for c, on in enumerate((3, 21, 38, 56)):
            phases = [state[1 + c] for state in found]
            self.assertEqual(phases.index(ON), on)
            self.assertEqual(phases[on:on + 5].count(ON), 5)
            self.assertEqual(phases[on + 5], DONE)
            self.assertEqual(phases[on + 70], ON)

    def test_some_idle_some_on_some_done(self):
        # The spark of cylinder 0 is told at tooth 0, where cylinder 1 is told to go on already.
        calls = [start(dwell=60000, most=65536, advance=flat(640))] + known(ZERO, D)
        self.assertEqual(state_behind(calls), [0, DONE, ON, IDLE, IDLE, 0, 0])
        self.assertEqual(state_behind(calls + teeth(even(ZERO, D, 1, 19))), [0, DONE, DONE, ON, IDLE, 18, 0])
        # The next spark of cylinder 0 is 2304 ahead of tooth 0 of turn 1, and below that behind it.
        self.assertEqual(state_behind(calls + teeth(even(ZERO, D, 1, 36))), [0, DONE, DONE, DONE, ON, 0, 1])
        self.assertEqual(state_behind(calls + teeth(even(ZERO, D, 1, 37))), [0, IDLE, DONE, DONE, ON, 1, 1])

    def test_two_on(self):
        # At tooth 0 cylinder 1 is 768 ahead; at tooth 1 the advance falls, and cylinder 0 is 576 ahead.
        how = dict(dwell=60000, most=65536, advance=by_line([0] * 5 + [1024] * 11))
        calls = [start(**how)] + known(ZERO, 512)
        found = states(calls + teeth([ZERO + 1024, ZERO + 3072]))
        self.assertEqual(found[-3:], [[0, IDLE, ON, IDLE, IDLE, 0, 0], [0, ON, ON, IDLE, IDLE, 1, 0], NOTHING_KNOWN])

    def test_on_ahead_of_its_time(self):
        # Told at tooth 3, though it goes on 480 behind it.
        calls = [start()] + known(ZERO, D) + teeth(even(ZERO, D, 1, 4))
        self.assertEqual(ask(calls)[-1], [1, 0, 0, ZERO + 2400, 2, 0, ZERO + 7400])
        self.assertEqual(state_behind(calls), [0, ON, IDLE, IDLE, IDLE, 3, 0])

    def test_on_when_its_time_to_be_off_has_come(self):
        # It slows down, and is told nothing until its spark's position comes.
        times = even(ZERO, D, 1, 6) + [ZERO + 3200 + 860, ZERO + 3200 + 2010, ZERO + 3200 + 3550]
        calls = [start(dwell=3000, most=3000)] + known(ZERO, D) + teeth(times)
        found = states(calls)
        self.assertEqual([state[1] for state in found[-6:]], [ON, ON, ON, ON, ON, DONE])
        # It was to be off at 5400, ahead of tooth 8; there's no spark, and it is done all the same.
        self.assertEqual(ask(calls)[-1], [1])

    def test_idle_when_given_up(self):
        for end, phase in ((4, ON), (9, DONE)):
            calls = [start()] + known(ZERO, D) + teeth(even(ZERO, D, 1, end))
            last = ZERO + (end - 1) * D
            self.assertEqual(state_behind(calls), [0, phase, IDLE, IDLE, IDLE, end - 1, 0])
            self.assertEqual(state_behind(calls + [tooth(last + 2 * D)]), NOTHING_KNOWN)
            self.assertEqual(state_behind(calls + [tick(last + 2 ** 20 + 1)]), NOTHING_KNOWN)

    def test_idle_when_the_turn_is_lost(self):
        found = even_states(dict(most=65536, advance=flat(600)), 71)
        self.assertEqual(found[-2:], [[0, ON, IDLE, DONE, DONE, 34, 1], [0, IDLE, IDLE, IDLE, IDLE, 0, NO_TURN]])


class Unchanged(unittest.TestCase):
    def test_asked_again(self):
        calls = [start()] + known(ZERO, D) + teeth(even(ZERO, D, 1, 25))
        self.assertEqual(ask(calls + [STATE] * 5)[-5:], [[0, DONE, ON, IDLE, IDLE, 24, 0]] * 5)

    def test_refused_calls_change_nothing(self):
        calls = [start()] + known(ZERO, D) + teeth(even(ZERO, D, 1, 7))
        now = ZERO + 6 * D
        wrong = [tooth(now), tooth(2 ** 62), tick(now), tick(2 ** 64 - 1), load(3841), start(most=65537)]
        found = states(calls + wrong)
        self.assertEqual(found[-7:], [[0, ON, IDLE, IDLE, IDLE, 6, 0]] * 7)

    def test_cam_and_load_change_nothing_of_it(self):
        calls = [start()] + known(ZERO, D) + teeth(even(ZERO, D, 1, 7))
        self.assertEqual(states(calls + [CAM, load(9), tick(ZERO + 7 * D)])[-4:], [[0, ON, IDLE, IDLE, IDLE, 6, 0]] * 4)


if __name__ == "__main__":
    unittest.main()
