"""A tooth at which it is surely known where the crank is, and which turn: what lies ahead of it, and when."""

from enginetimes.crank import LAST_TOOTH

PLACES = 36
PLACE = 64
CYCLE = 4608
SPEED_OF_ONE = 1048576
TOP_SPEED = 3840


class Moment:
    def __init__(self, crank):
        self.now = crank.last_time
        self.position = PLACE * (crank.place + PLACES * crank.turn)
        # The interval at tooth 0 covers the missing tooth's place too.
        self.pace = max(crank.interval // 2, 1) if crank.place == 0 else crank.interval
        self.span = 2 * PLACE if crank.place == LAST_TOOTH else PLACE

    def ahead(self, position):
        return (position - self.position) % CYCLE

    def time_of(self, distance):
        return self.now + self.pace * distance // PLACE

    def speed(self):
        return min(SPEED_OF_ONE // self.pace, TOP_SPEED)
