"""The calls on one plan: read from one list, answered in one list."""

from evenblocksdesk.evenness import even_answer, greatest_even
from evenblocksdesk.masks import common_sizes, count_together, mask_of, rise_within, size_of

MOST_POINTS = 16
MOST_BLOCKS = 20
MOST_EVEN = 4

WRONG_POINTS = -1
NO_BLOCK = -2
TOO_MANY = -5
NOT_ALIKE = -6

# By the calls' numbers: those behind which a whole number stands, and those with a row.
NUMBER_CALLS = (0, 2, 4)
ROW_CALLS = (1, 3)


class Plan:
    """Points 1 to top, and the blocks, each as a set of masks.py."""

    def __init__(self):
        self.top = 1
        self.blocks = []


def points_call(plan, numbers):
    """points (v)."""
    top = numbers[0]
    if top < 1 or top > MOST_POINTS:
        return [WRONG_POINTS]
    plan.top = top
    plan.blocks = []
    return [0]


def block_call(plan, numbers):
    """block (points)."""
    if not rise_within(numbers, plan.top):
        return [WRONG_POINTS]
    if len(plan.blocks) >= MOST_BLOCKS:
        return [TOO_MANY]
    plan.blocks.append(mask_of(numbers))
    return [len(plan.blocks) - 1]


def gone_call(plan, numbers):
    """gone (n)."""
    number = numbers[0]
    if number >= len(plan.blocks):
        return [NO_BLOCK]
    plan.blocks.pop(number)
    return [len(plan.blocks)]


def together_call(plan, numbers):
    """together (points)."""
    if not rise_within(numbers, plan.top):
        return [WRONG_POINTS]
    return [count_together(plan.blocks, mask_of(numbers))]


def even_call(plan, numbers):
    """even (t)."""
    t = numbers[0]
    if t > MOST_EVEN or t > plan.top:
        return [WRONG_POINTS]
    return even_answer(plan.top, plan.blocks, t)


def strength_call(plan, numbers):
    """strength ()."""
    sizes = [size_of(block) for block in plan.blocks]
    if len(sizes) == 0 or min(sizes) != max(sizes):
        return [NOT_ALIKE]
    return [sizes[0], greatest_even(plan.top, plan.blocks)]


def degrees_call(plan, numbers):
    """degrees ()."""
    return [count_together(plan.blocks, mask_of([point])) for point in range(1, plan.top + 1)]


def meets_call(plan, numbers):
    """meets ()."""
    return common_sizes(plan.blocks)


# Each stands at its call's number.
CALLS = (
    points_call,
    block_call,
    gone_call,
    together_call,
    even_call,
    strength_call,
    degrees_call,
    meets_call,
)


def numbers_start(call, place):
    """Where the numbers of the call at this place begin: a row has its length ahead."""
    if call in ROW_CALLS:
        return place + 2
    return place + 1


def numbers_length(calls, place):
    """How many numbers the call at this place has, without a row's length."""
    if calls[place] in ROW_CALLS:
        return calls[place + 1]
    if calls[place] in NUMBER_CALLS:
        return 1
    return 0


def answers(calls):
    """For each call, in order: how many numbers are answered, then these."""
    plan = Plan()
    told = []
    place = 0
    while place < len(calls):
        call = calls[place]
        start = numbers_start(call, place)
        end = start + numbers_length(calls, place)
        answer = CALLS[call](plan, calls[start:end])
        told.append(len(answer))
        told.extend(answer)
        place = end
    return told
