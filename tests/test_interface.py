"""The interface: how calls are written, how answers are given back, and that nothing is kept or changed."""

import unittest

from drive import CAM, even, flat, known, start, teeth, tooth
from enginetimes.engine import UnknownCall, answers


class Frozen(list):
    """A list that can't be changed, not for a while either."""

    def refuse(self, *args, **kwargs):
        raise AssertionError("what was handed in was changed")

    append = clear = extend = insert = pop = remove = reverse = sort = refuse
    __setitem__ = __delitem__ = __iadd__ = __imul__ = refuse


def joined(calls):
    return [number for call in calls for number in call]


def run(**how):
    calls = [start(**how)] + known(100000, 640) + teeth(even(100000, 640, 1, 70)) + [CAM]
    return joined(calls + teeth(even(100000, 640, 70, 140)))


class Answers(unittest.TestCase):
    def test_count_stands_before_each_answer(self):
        self.assertEqual(answers(start()), [1, 0])
        self.assertEqual(answers(start(dwell=0)), [1, -22])
        self.assertEqual(answers(start() + tooth(5) + tooth(5) + CAM + tooth(6)), [1, 0, 1, 0, 1, -22, 1, 0, 1, 0])

    def test_what_is_told_stands_behind_the_answer(self):
        calls = start(dwell=500, most=700, advance=flat(640)) + joined(known(100000, 640))
        self.assertEqual(answers(calls), [1, 0] * 39 + [10, 1, 0, 0, 100000, 2, 0, 100700, 1, 0, 100000])

    def test_what_is_told_stands_behind_a_0_too(self):
        # Lost behind tooth 34, with the spark of cylinder 2 told ahead.
        calls = start(dwell=500, most=700, advance=flat(690)) + joined(known(100000, 640))
        calls += joined(teeth(even(100000, 640, 1, 35))) + tooth(122400)
        self.assertEqual(answers(calls)[-16:],
                         [10, 1, 0, 2, 122040, 2, 2, 122740, 1, 2, 122540, 4, 0, 2, 2, 122400])

    def test_what_is_handed_in_stays_as_it_was(self):
        calls = run(fuel=flat(70))
        before = list(calls)
        answers(calls)
        self.assertEqual(calls, before)
        self.assertEqual(answers(Frozen(calls)), answers(calls))

    def test_asked_twice_is_answered_alike(self):
        first, second = run(fuel=flat(70)), run(dwell=100, most=200, advance=flat(1000))
        once = answers(first)
        other = answers(second)
        self.assertNotEqual(once, other)
        self.assertEqual(answers(first), once)
        self.assertEqual(answers(second), other)

    def test_what_is_given_back_is_the_askers_own(self):
        calls = run()
        once = answers(calls)
        kept = list(once)
        once.clear()
        self.assertEqual(answers(calls), kept)

    def test_kinds(self):
        found = answers(run(fuel=flat(70)))
        self.assertIs(type(found), list)
        self.assertEqual({type(number) for number in found}, {int})

    def test_longest_list(self):
        calls = start(fuel=flat(3)) + joined(teeth(range(4999)))
        found = answers(calls)
        self.assertEqual(found, [1, 0] * 5000)
        many = start() * 30
        self.assertLessEqual(len(many), 16000)
        self.assertEqual(answers(many), [1, 0] * 30)

    def test_numbers_of_tables_are_not_taken_for_calls(self):
        for number in (0, 1, 2, 256):
            calls = start(advance=flat(number), fuel=flat(number)) + CAM + tooth(1)
            self.assertEqual(answers(calls), [1, 0, 1, 0, 1, 0])

    def test_no_such_call(self):
        with self.assertRaises(UnknownCall):
            answers(start() + [6])


if __name__ == "__main__":
    unittest.main()
