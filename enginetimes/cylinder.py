"""One cylinder: when its coil and its valve are told to do what."""

COIL_ON = 0
SPARK = 1
SOFT_OFF = 2
VALVE_OPENS = 3
VALVE_CLOSES = 4

IDLE = 0
ON = 1
DONE = 2

QUARTER = 1152
HALF = 2304
SPARK_BASE = 640
VALVE_BASE = 2944


class Cylinder:
    # went_on is the time at which it was told to go on last, off the one at which it is off at the latest.

    def __init__(self, number):
        self.number = number
        self.phase = IDLE
        self.went_on = 0
        self.off = 0

    def give_up(self, t):
        self.phase = IDLE
        if self.off <= t:
            return []
        self.off = t
        return [SOFT_OFF, self.number, t]

    def follow(self, moment, timing):
        ahead = moment.ahead(QUARTER * self.number + SPARK_BASE - timing.advance)
        self.rest(ahead)
        told = self.go_on(moment, ahead, timing)
        told.extend(self.spark(moment, ahead, timing))
        told.extend(self.feed(moment, timing))
        return told

    def rest(self, ahead):
        if self.phase == DONE and QUARTER <= ahead < HALF:
            self.phase = IDLE

    def go_on(self, moment, ahead, timing):
        on_time = moment.time_of(ahead) - timing.dwell
        if self.phase != IDLE or self.off > moment.now or ahead > QUARTER:
            return []
        if on_time >= moment.time_of(moment.span):
            return []
        self.phase = ON
        self.went_on = max(on_time, moment.now)
        self.off = self.went_on + timing.most
        return [COIL_ON, self.number, self.went_on, SOFT_OFF, self.number, self.off]

    def spark(self, moment, ahead, timing):
        gone_by = ahead > HALF
        if self.phase != ON or (ahead >= moment.span and not gone_by):
            return []
        self.phase = DONE
        spark_time = moment.now if gone_by else moment.time_of(ahead)
        # The soft going off that was told with the going on comes first then.
        if spark_time - self.went_on > timing.most:
            return []
        self.off = spark_time
        return [SPARK, self.number, spark_time]

    def feed(self, moment, timing):
        ahead = moment.ahead(QUARTER * self.number + VALVE_BASE)
        if ahead >= moment.span or timing.fuel == 0:
            return []
        opens = moment.time_of(ahead)
        return [VALVE_OPENS, self.number, opens, VALVE_CLOSES, self.number, opens + timing.fuel]
