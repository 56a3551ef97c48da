"""How the tests write calls, and read what is answered."""

from enginetimes.engine import answers

CAM = [2]
STATE = [5]
REFUSED = [-22]
ON, SPARK, SOFT, OPENS, CLOSES = range(5)
# What state answers where nothing is known and no cylinder is on or done.
NOTHING_KNOWN = [0, 0, 0, 0, 0, 255, 2]


def flat(number):
    return [number] * 256


def by_line(numbers):
    return [number for number in numbers for column in range(16)]


def by_column(numbers):
    return list(numbers) * 16


def start(dwell=3000, most=5000, advance=None, fuel=None):
    advance = flat(100) if advance is None else advance
    fuel = flat(0) if fuel is None else fuel
    return [0, dwell, most, len(advance)] + advance + [len(fuel)] + fuel


def tooth(t):
    return [1, t]


def load(number):
    return [3, number]


def tick(t):
    return [4, t]


def teeth(times):
    return [tooth(t) for t in times]


def perhaps_last(zero, d):
    """Teeth that lead to perhaps tooth 34; an even wheel's next tooth comes at zero."""
    return teeth([zero - 39 * d, zero - 38 * d] + [zero - (36 - k) * d for k in range(35)])


def known(zero, d):
    """Teeth and a cam that lead to surely tooth 0 of turn 0, at zero."""
    return perhaps_last(zero, d) + [CAM, tooth(zero)]


def even(zero, d, first, end):
    """The times of an even wheel's teeth, counted from tooth 0 at zero, from first on to before end."""
    return [zero + d * (36 * (n // 35) + n % 35) for n in range(first, end)]


def ask(calls):
    """The answers, call by call, with the counts that stand before them taken off."""
    numbers = answers([number for call in calls for number in call])
    found = []
    place = 0
    while place < len(numbers):
        behind = place + 1 + numbers[place]
        assert behind <= len(numbers), "a count is greater than what stands behind it"
        found.append(numbers[place + 1:behind])
        place = behind
    assert len(found) == len(calls), "there is not one answer for each call"
    return found


def told(answer):
    """What is told to be done, in triples: what, cylinder, time."""
    assert len(answer) % 3 == 1
    return [tuple(answer[k:k + 3]) for k in range(1, len(answer), 3)]


def told_of(answers_found, cylinder):
    return [each for answer in answers_found for each in told(answer) if each[1] == cylinder]
