"""The engine: its calls, and the one list of whole numbers they are written in."""

from enginetimes.crank import Crank
from enginetimes.cylinder import Cylinder
from enginetimes.moment import Moment
from enginetimes.tables import look_between

REFUSED = -22
CYLINDERS = 4
LONGEST_MOST = 65536
MOST_ADVANCE = 1024
MOST_LOAD = 3840
# 2 to the 62nd
TIMES_END = 4611686018427387904

TOOTH_NOT_KNOWN = 255
TURN_NOT_KNOWN = 2

START = 0
TOOTH = 1
CAM = 2
LOAD = 3
TICK = 4
STATE = 5


class UnknownCall(ValueError):
    pass


class Timing:
    # What holds for all cylinders at one tooth.

    def __init__(self, dwell, most, advance, fuel):
        self.dwell = dwell
        self.most = most
        self.advance = advance
        self.fuel = fuel


class Engine:
    def __init__(self):
        self.begin(0, 0, [], [])

    def begin(self, dwell, most, advances, fuels):
        self.dwell = dwell
        self.most = most
        self.advances = advances
        self.fuels = fuels
        self.load_now = 0
        self.crank = Crank()
        self.cylinders = [Cylinder(number) for number in range(CYLINDERS)]

    def start(self, dwell, most, advances, fuels):
        if dwell == 0 or dwell > most or most > LONGEST_MOST:
            return [REFUSED]
        if min(advances) < 0 or max(advances) > MOST_ADVANCE or min(fuels) < 0:
            return [REFUSED]
        self.begin(dwell, most, advances, fuels)
        return [0]

    def may_come(self, t):
        return t < TIMES_END and self.crank.comes_behind(t)

    def tooth(self, t):
        if not self.may_come(t):
            return [REFUSED]
        self.crank.pass_tooth(t)
        if not self.crank.is_known():
            return [0] + self.give_up_all(t)
        return [1] + self.follow_all(Moment(self.crank))

    def give_up_all(self, t):
        told = []
        for cylinder in self.cylinders:
            told.extend(cylinder.give_up(t))
        return told

    def follow_all(self, moment):
        timing = self.timing_at(moment.speed())
        told = []
        for cylinder in self.cylinders:
            told.extend(cylinder.follow(moment, timing))
        return told

    def timing_at(self, speed):
        advance = look_between(self.advances, self.load_now, speed)
        fuel = look_between(self.fuels, self.load_now, speed)
        return Timing(self.dwell, self.most, advance, fuel)

    def cam(self):
        self.crank.tell_cam()
        return [0]

    def load(self, load):
        if load > MOST_LOAD:
            return [REFUSED]
        self.load_now = load
        return [0]

    def tick(self, t):
        if not self.may_come(t):
            return [REFUSED]
        if not self.crank.stands_still(t):
            return [0]
        self.crank = Crank()
        return [1] + self.give_up_all(t)

    def state(self):
        phases = [cylinder.phase for cylinder in self.cylinders]
        place = self.crank.place if self.crank.is_sure() else TOOTH_NOT_KNOWN
        turn = self.crank.turn if self.crank.is_known() else TURN_NOT_KNOWN
        return [0] + phases + [place, turn]


def answers(calls):
    engine = Engine()
    answered = []
    place = 0
    while place < len(calls):
        behind = place + call_length(calls, place)
        answer = answer_call(engine, calls[place:behind])
        answered.append(len(answer))
        answered.extend(answer)
        place = behind
    return answered


def call_length(calls, place):
    if calls[place] == START:
        fuel_count = place + 4 + calls[place + 3]
        return fuel_count + 1 + calls[fuel_count] - place
    return 2 if calls[place] in (TOOTH, LOAD, TICK) else 1


def answer_call(engine, call):
    if call[0] == START:
        advance_end = 4 + call[3]
        return engine.start(call[1], call[2], call[4:advance_end], call[advance_end + 1:])
    if call[0] == TOOTH:
        return engine.tooth(call[1])
    if call[0] == CAM:
        return engine.cam()
    if call[0] == LOAD:
        return engine.load(call[1])
    if call[0] == TICK:
        return engine.tick(call[1])
    if call[0] == STATE:
        return engine.state()
    raise UnknownCall("no such call")
