"""What the tests share: writing lines of calls, and known plans."""

from evenblocksdesk.plans import answers

HIGHEST = 4294967295

STRENGTH = [5]
DEGREES = [6]
MEETS = [7]
TURN = [8]
FILL = [9]
CLASSES = [14]
BLOCKS = [15]

FANO = [[1, 2, 3], [1, 4, 5], [1, 6, 7], [2, 4, 6], [2, 5, 7], [3, 4, 7], [3, 5, 6]]

# Lines of the plane of nine points: each two points in one block, each three not alike.
NINE = [
    [1, 2, 3], [4, 5, 6], [7, 8, 9], [1, 4, 7], [2, 5, 8], [3, 6, 9],
    [1, 5, 9], [2, 6, 7], [3, 4, 8], [1, 6, 8], [2, 4, 9], [3, 5, 7],
]


def points(v):
    return [0, v]


def block(*row):
    return [1, len(row)] + list(row)


def gone(n):
    return [2, n]


def together(*row):
    return [3, len(row)] + list(row)


def even(t):
    return [4, t]


def around(x):
    return [10, x]


def away(x):
    return [11, x]


def inside(n):
    return [12, n]


def outside(n):
    return [13, n]


def plan(v, rows):
    """The calls that make a plan."""
    return [points(v)] + [block(*row) for row in rows]


def wide_plan(rows):
    """The calls that make a plan of twenty points, of one block or more: four points come by turning twice."""
    calls = plan(16, [[p for p in rows[0] if p <= 16]]) + [TURN]
    calls += [block(1) if p in rows[0] else block() for p in range(17, 21)]
    return calls + [TURN] + [block(*row) for row in rows[1:]]


def told(v, rows):
    """A plan, told."""
    return [v, len(rows)] + [number for row in rows for number in [len(row)] + list(row)]


def eight():
    """Any three of eight points in one block: FANO's blocks with 8, and what they leave."""
    return [row + [8] for row in FANO] + [[p for p in range(1, 8) if p not in row] for row in FANO]


def ask(calls):
    """The answers to the calls, a list for each."""
    line = [number for call in calls for number in call]
    handed = list(line)
    given = answers(handed)
    if handed != line:
        raise AssertionError("what was handed in is changed")
    split = []
    while given:
        split.append(given[1:1 + given[0]])
        given = given[1 + given[0]:]
    if len(split) != len(calls):
        raise AssertionError("not an answer for each call")
    return split


def ask_last(calls, count=1):
    """The answers to the last calls alone."""
    return ask(calls)[-count:]


def look(v):
    """Calls that show a plan of v points: which points stand where, by ones and twos."""
    twos = [together(p, q) for p in range(1, v + 1) for q in range(p + 1, v + 1)]
    return [together(), DEGREES, MEETS] + twos[:15]
