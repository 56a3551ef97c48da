"""The engine: its calls, and the one list of whole numbers they are written in."""

from enginetimes.crank import Crank
from enginetimes.cylinder import Cylinder
from enginetimes.moment import Moment
from enginetimes.tables import look_between

REFUSED = -22
CYLINDERS = 4
LONGEST_MOST = 65536
MOST_ADVANCE = 1024
# 2 to the 62nd
TIMES_END = 4611686018427387904

START = 0
TOOTH = 1
CAM = 2


class UnknownCall(ValueError):
    pass


class Timing:
    # What holds for all cylinders at one tooth.

    def __init__(self, dwell, most, advance, fuel):
        self.dwell = dwell
        self.most = most
        self.advance = advance
        self.fuel = fuel


class Engine:
    def __init__(self):
        self.begin(0, 0, [], [])

    def begin(self, dwell, most, advances, fuels):
        self.dwell = dwell
        self.most = most
        self.advances = advances
        self.fuels = fuels
        self.load_now = 0
        self.crank = Crank()
        self.cylinders = [Cylinder(number) for number in range(CYLINDERS)]

    def start(self, dwell, most, advances, fuels):
        if dwell == 0 or dwell > most or most > LONGEST_MOST:
            return [REFUSED]
        if min(advances) < 0 or max(advances) > MOST_ADVANCE or min(fuels) < 0:
            return [REFUSED]
        self.begin(dwell, most, advances, fuels)
        return [0]

    def tooth(self, t):
        if t >= TIMES_END or not self.crank.comes_behind(t):
            return [REFUSED]
        self.crank.pass_tooth(t)
        if not self.crank.is_known():
            return [0] + self.give_up_all(t)
        return [1] + self.follow_all(Moment(self.crank))

    def give_up_all(self, t):
        told = []
        for cylinder in self.cylinders:
            told.extend(cylinder.give_up(t))
        return told

    def follow_all(self, moment):
        timing = self.timing_at(moment.speed())
        told = []
        for cylinder in self.cylinders:
            told.extend(cylinder.follow(moment, timing))
        return told

    def timing_at(self, speed):
        advance = look_between(self.advances, self.load_now, speed)
        fuel = look_between(self.fuels, self.load_now, speed)
        return Timing(self.dwell, self.most, advance, fuel)

    def cam(self):
        self.crank.tell_cam()
        return [0]


def answers(calls):
    engine = Engine()
    answered = []
    place = 0
    while place < len(calls):
        behind = place + call_length(calls, place)
        answer = answer_call(engine, calls[place:behind])
        answered.append(len(answer))
        answered.extend(answer)
        place = behind
    return answered


def call_length(calls, place):
    if calls[place] == START:
        fuel_count = place + 4 + calls[place + 3]
        return fuel_count + 1 + calls[fuel_count] - place
    return 2 if calls[place] == TOOTH else 1


def answer_call(engine, call):
    if call[0] == START:
        advance_end = 4 + call[3]
        return engine.start(call[1], call[2], call[4:advance_end], call[advance_end + 1:])
    if call[0] == TOOTH:
        return engine.tooth(call[1])
    if call[0] == CAM:
        return engine.cam()
    raise UnknownCall("no such call")
