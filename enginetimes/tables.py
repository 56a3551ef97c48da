"""Tables of sixteen by sixteen numbers, looked at between their lines and columns."""

SIDE = 16
STEP = 256
LAST = 15


def look_between(table, x, y):
    column = x // STEP
    line = y // STEP
    # Behind the last column or line there is none; its share is 0 there, so the last may stand in.
    next_column = min(column + 1, LAST)
    next_line = min(line + 1, LAST)
    upper = share(table[SIDE * line + column], table[SIDE * line + next_column], x % STEP)
    lower = share(table[SIDE * next_line + column], table[SIDE * next_line + next_column], x % STEP)
    return (share(upper, lower, y % STEP) + STEP * STEP // 2) // (STEP * STEP)


def share(here, there, way):
    return here * (STEP - way) + there * way
