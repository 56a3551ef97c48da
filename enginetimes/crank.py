"""Where the crank is: what follows from the times of the teeth and from the cam alone."""

LONGEST_INTERVAL = 1048576
LAST_TOOTH = 34

UNKNOWN = 0
PERHAPS = 1
SURELY = 2


class Crank:
    # last_time, interval and turn are None where there is none, or where it is not known.

    def __init__(self):
        self.last_time = None
        self.interval = None
        self.certainty = UNKNOWN
        self.place = 0
        self.turn = None
        self.cam_told = False

    def comes_behind(self, t):
        return self.last_time is None or t > self.last_time

    def pass_tooth(self, t):
        interval = self.interval_at(t)
        gap = self.is_gap(interval)
        self.last_time = t
        self.interval = interval
        self.move(gap)
        self.settle_turn()

    def stands_still(self, t):
        return self.last_time is not None and t - self.last_time > LONGEST_INTERVAL

    def interval_at(self, t):
        # A tooth behind too long an interval counts as the first of all, and the first has none.
        if self.last_time is None or self.stands_still(t):
            return None
        return t - self.last_time

    def is_gap(self, interval):
        if interval is None or self.interval is None:
            return False
        return 20 * interval > 27 * self.interval

    def move(self, gap):
        at_last = self.certainty != UNKNOWN and self.place == LAST_TOOTH
        if gap:
            self.certainty = SURELY if at_last else PERHAPS
            self.place = 0
        elif self.interval is None or at_last:
            self.certainty = UNKNOWN
        elif self.certainty != UNKNOWN:
            self.place += 1

    def settle_turn(self):
        if not self.is_sure():
            self.turn = None
        elif self.place == 0:
            self.turn = self.turn_begun()
        else:
            return
        # Only a cam told behind this tooth counts from here on.
        self.cam_told = False

    def turn_begun(self):
        if self.cam_told:
            return 0
        return 1 if self.turn == 0 else None

    def tell_cam(self):
        self.cam_told = True

    def is_sure(self):
        return self.certainty == SURELY

    def is_known(self):
        return self.is_sure() and self.turn is not None
