"""The document's words done one by one, as plainly as can be; slow, and apart from the program."""


class Plain:
    def __init__(self):
        self.clear(1, 1, [0] * 256, [0] * 256)

    def clear(self, dwell, most, advance, fuel):
        self.dwell, self.most, self.advance, self.fuel = dwell, most, advance, fuel
        self.load = 0
        self.phase, self.went_on, self.off = [0] * 4, [0] * 4, [0] * 4
        self.forget_teeth()

    def forget_teeth(self):
        self.events = []

    def teeth(self):
        return [each for each in self.events if each != "cam"]

    def where(self):
        """Walks through all teeth and cams from the beginning: certainty, tooth, turn, interval."""
        sure, k, turn, cam, before, last = "unknown", None, None, False, None, None
        for event in self.events:
            if event == "cam":
                cam = True
                continue
            interval = None if last is None else event - last
            last = event
            if interval is None or interval > 2 ** 20:
                sure, k, interval = "unknown", None, None
            else:
                gap = before is not None and interval * 20 > before * 27
                if sure == "unknown":
                    sure, k = ("perhaps", 0) if gap else ("unknown", None)
                elif gap:
                    sure, k = ("surely" if k == 34 else "perhaps"), 0
                elif k == 34:
                    sure, k = "unknown", None
                else:
                    k += 1
            before = interval
            if sure != "surely":
                turn, cam = None, False
            elif k == 0:
                turn = 0 if cam else 1 if turn == 0 else None
                cam = False
        return sure, k, turn, before

    def call(self, call):
        return [self.start, self.tooth, self.cam, self.load_told, self.tick, self.state][call[0]](*call[1:])

    def start(self, dwell, most, *tables):
        advance, fuel = list(tables[1:257]), list(tables[258:])
        if dwell == 0 or dwell > most or most > 65536:
            return [-22]
        if any(not 0 <= number <= 1024 for number in advance) or any(number < 0 for number in fuel):
            return [-22]
        self.clear(dwell, most, advance, fuel)
        return [0]

    def wrong_time(self, t):
        return t >= 2 ** 62 or self.teeth() != [] and t <= self.teeth()[-1]

    def cam(self):
        self.events.append("cam")
        return [0]

    def load_told(self, load):
        if load > 3840:
            return [-22]
        self.load = load
        return [0]

    def give_up(self, t):
        told = []
        for c in range(4):
            if self.off[c] > t:
                told += [2, c, t]
                self.off[c] = t
            self.phase[c] = 0
        return told

    def tick(self, t):
        if self.wrong_time(t):
            return [-22]
        if self.teeth() == [] or t - self.teeth()[-1] <= 2 ** 20:
            return [0]
        self.forget_teeth()
        return [1] + self.give_up(t)

    def state(self):
        sure, k, turn, interval = self.where()
        return [0] + self.phase + [k if sure == "surely" else 255, 2 if turn is None else turn]

    def look(self, table, speed):
        i, u, j, v = self.load // 256, self.load % 256, speed // 256, speed % 256
        wide = [table[16 * line:16 * line + 16] + [0] for line in range(16)] + [[0] * 17]
        a, b, c, d = wide[j][i], wide[j][i + 1], wide[j + 1][i], wide[j + 1][i + 1]
        return (a * (256 - u) * (256 - v) + b * u * (256 - v) + c * (256 - u) * v + d * u * v + 32768) // 65536

    def tooth(self, t):
        if self.wrong_time(t):
            return [-22]
        self.events.append(t)
        sure, k, turn, interval = self.where()
        if turn is None:
            return [0] + self.give_up(t)
        d = max(interval // 2, 1) if k == 0 else interval
        speed = min(2 ** 20 // d, 3840)
        advance, fuel = self.look(self.advance, speed), self.look(self.fuel, speed)
        answer = [1]
        for c in range(4):
            answer += self.cylinder(c, t, 64 * (k + 36 * turn), d, 128 if k == 34 else 64, advance, fuel)
        return answer

    def cylinder(self, c, t, p, d, span, advance, fuel):
        told = []
        a = (1152 * c + 640 - advance - p) % 4608
        s = t + d * a // 64
        if self.phase[c] == 2 and 1152 <= a <= 2303:
            self.phase[c] = 0
        if self.phase[c] == 0 and self.off[c] <= t and a <= 1152 and s - self.dwell < t + d * span // 64:
            self.went_on[c] = max(s - self.dwell, t)
            self.off[c] = self.went_on[c] + self.most
            self.phase[c] = 1
            told += [0, c, self.went_on[c], 2, c, self.off[c]]
        if self.phase[c] == 1 and (a < span or a > 2304):
            self.phase[c] = 2
            spark = t if a > 2304 else s
            if spark <= self.went_on[c] + self.most:
                self.off[c] = spark
                told += [1, c, spark]
        v = (1152 * c + 2944 - p) % 4608
        if v < span and fuel != 0:
            told += [3, c, t + d * v // 64, 4, c, t + d * v // 64 + fuel]
        return told
