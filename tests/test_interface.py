"""The interface: how calls are written, how answers are given back, and that nothing is kept or changed."""

import unittest

from drive import CAM, STATE, by_column, even, flat, known, load, start, teeth, tick, tooth
from enginetimes.engine import UnknownCall, answers


class Frozen(list):
    """A list that can't be changed, not for a while either."""

    def refuse(self, *args, **kwargs):
        raise AssertionError("what was handed in was changed")

    append = clear = extend = insert = pop = remove = reverse = sort = refuse
    __setitem__ = __delitem__ = __iadd__ = __imul__ = refuse


def joined(calls):
    return [number for call in calls for number in call]


def run(**how):
    """Every call, taken and refused, and at its end a load, a crank and cylinders that another run must not see."""
    calls = [start(dwell=0), start(**how), tick(7), STATE] + known(100000, 640) + teeth(even(100000, 640, 1, 70))
    calls += [CAM, load(700), STATE, tick(146080), load(3841)] + teeth(even(100000, 640, 70, 140))
    calls += [tick(192160 + 2 ** 20), STATE, CAM, tooth(2 ** 62)] + known(300000, 640) + teeth(even(300000, 640, 1, 9))
    return joined(calls + [load(3840), STATE])


class Answers(unittest.TestCase):
    def test_count_stands_before_each_answer(self):
        self.assertEqual(answers(start()), [1, 0])
        self.assertEqual(answers(start(dwell=0)), [1, -22])
        self.assertEqual(answers(start() + tooth(5) + tooth(5) + CAM + tooth(6)), [1, 0, 1, 0, 1, -22, 1, 0, 1, 0])

    def test_what_is_told_stands_behind_the_answer(self):
        calls = start(dwell=500, most=700, advance=flat(640)) + joined(known(100000, 640))
        self.assertEqual(answers(calls), [1, 0] * 39 + [10, 1, 0, 0, 100000, 2, 0, 100700, 1, 0, 100000])

    def test_what_is_told_stands_behind_a_0_too(self):
        # Lost behind tooth 34, with the spark of cylinder 2 told ahead.
        calls = start(dwell=500, most=700, advance=flat(690)) + joined(known(100000, 640))
        calls += joined(teeth(even(100000, 640, 1, 35))) + tooth(122400)
        self.assertEqual(answers(calls)[-16:],
                         [10, 1, 0, 2, 122040, 2, 2, 122740, 1, 2, 122540, 4, 0, 2, 2, 122400])

    def test_what_a_tick_tells_stands_behind_its_answer(self):
        # 125 ahead of tooth 34 come more than 2^20 later.
        zero = 2 ** 30
        last = zero + 33 * 2 ** 19 + 600000
        late = last + 2 ** 20 + 1
        calls = start(advance=flat(643)) + joined(known(zero, 2 ** 19) + teeth(even(zero, 2 ** 19, 1, 34)))
        calls += tooth(last) + tick(last) + tick(late - 1) + tick(late) + tick(late)
        self.assertEqual(answers(calls)[-11:], [1, -22, 1, 0, 4, 1, 2, 2, late, 1, 0])

    def test_states_six_numbers_stand_behind_its_0(self):
        self.assertEqual(answers(start() + STATE), [1, 0, 7, 0, 0, 0, 0, 0, 255, 2])
        calls = start(dwell=500, most=700, advance=flat(640)) + joined(known(100000, 640)) + STATE + load(9) + STATE
        self.assertEqual(answers(calls)[-18:], [7, 0, 2, 0, 0, 0, 0, 0, 1, 0, 7, 0, 2, 0, 0, 0, 0, 0])

    def test_load_and_tick_have_one_number_each(self):
        # That number is not taken for a call, whichever it is.
        for number in range(6):
            calls = start() + load(number) + tick(number) + STATE + load(3841) + tick(2 ** 62)
            self.assertEqual(answers(calls), [1, 0, 1, 0, 1, 0, 7, 0, 0, 0, 0, 0, 255, 2, 1, -22, 1, -22])

    def test_what_is_handed_in_stays_as_it_was(self):
        calls = run(fuel=flat(70))
        before = list(calls)
        answers(calls)
        self.assertEqual(calls, before)
        self.assertEqual(answers(Frozen(calls)), answers(calls))

    def test_asked_twice_is_answered_alike(self):
        first, second = run(fuel=flat(70)), run(dwell=100, most=200, advance=flat(1000))
        once = answers(first)
        other = answers(second)
        self.assertNotEqual(once, other)
        self.assertEqual(answers(first), once)
        self.assertEqual(answers(second), other)

    def test_nothing_is_left_of_another_time(self):
        # The load, the last tooth, the cam and the cylinders are new each time.
        calls = start(fuel=by_column(range(16))) + STATE + tick(0) + tooth(0) + STATE
        before = answers(calls)
        self.assertEqual(before, [1, 0, 7, 0, 0, 0, 0, 0, 255, 2, 1, 0, 1, 0, 7, 0, 0, 0, 0, 0, 255, 2])
        answers(run(fuel=flat(70)))
        self.assertEqual(answers(calls), before)

    def test_what_is_given_back_is_the_askers_own(self):
        calls = run()
        once = answers(calls)
        kept = list(once)
        once.clear()
        self.assertEqual(answers(calls), kept)

    def test_kinds(self):
        found = answers(run(fuel=flat(70)))
        self.assertIs(type(found), list)
        self.assertEqual({type(number) for number in found}, {int})

    def test_longest_list(self):
        # Compared as a whole: to show how such long lists differ would take too long.
        calls = start(fuel=flat(3)) + joined(teeth(range(4999)))
        self.assertTrue(answers(calls) == [1, 0] * 5000)
        self.assertTrue(answers(start() + STATE * 4999) == [1, 0] + [7, 0, 0, 0, 0, 0, 255, 2] * 4999)
        self.assertTrue(answers(start() + load(3840) * 2500 + tick(5) * 2499) == [1, 0] * 5000)
        many = start() * 30
        self.assertLessEqual(len(many), 16000)
        self.assertEqual(answers(many), [1, 0] * 30)

    def test_numbers_of_tables_are_not_taken_for_calls(self):
        for number in (0, 1, 2, 3, 4, 5, 256):
            calls = start(advance=flat(number), fuel=flat(number)) + CAM + tooth(1) + load(2) + tick(2)
            self.assertEqual(answers(calls), [1, 0] * 5)

    def test_no_such_call(self):
        with self.assertRaises(UnknownCall):
            answers(start() + [6])


if __name__ == "__main__":
    unittest.main()
