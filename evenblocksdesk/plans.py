"""The calls on one plan: read from one list, answered in one list."""

from evenblocksdesk.classes import first_way
from evenblocksdesk.evenness import even_answer, greatest_even
from evenblocksdesk.masks import common_sizes, count_together, has, mask_of, points_of, rise_within, size_of
from evenblocksdesk.shapes import blocks_besides, filled, points_besides, renumbered, turned

MOST_POINTS = 16
MOST_BLOCKS = 20
MOST_EVEN = 4

WRONG_POINTS = -1
NO_BLOCK = -2
NO_WAY = -3
TOO_MANY = -5
NO_POINT_LEFT = -5
NOT_ALIKE = -6
NO_POINTS_IN_BLOCK = -6

# By the calls' numbers: those behind which a whole number stands, and those with a row.
NUMBER_CALLS = (0, 2, 4, 10, 11, 12, 13)
ROW_CALLS = (1, 3)


class Plan:
    """Points 1 to top, and the blocks, each as a set of masks.py."""

    def __init__(self):
        self.top = 1
        self.blocks = []


def points_call(plan, numbers):
    """points (v)."""
    top = numbers[0]
    if top < 1 or top > MOST_POINTS:
        return [WRONG_POINTS]
    plan.top = top
    plan.blocks = []
    return [0]


def block_call(plan, numbers):
    """block (points)."""
    if not rise_within(numbers, plan.top):
        return [WRONG_POINTS]
    if len(plan.blocks) >= MOST_BLOCKS:
        return [TOO_MANY]
    plan.blocks.append(mask_of(numbers))
    return [len(plan.blocks) - 1]


def gone_call(plan, numbers):
    """gone (n)."""
    number = numbers[0]
    if number >= len(plan.blocks):
        return [NO_BLOCK]
    plan.blocks.pop(number)
    return [len(plan.blocks)]


def together_call(plan, numbers):
    """together (points)."""
    if not rise_within(numbers, plan.top):
        return [WRONG_POINTS]
    return [count_together(plan.blocks, mask_of(numbers))]


def even_call(plan, numbers):
    """even (t)."""
    t = numbers[0]
    if t > MOST_EVEN or t > plan.top:
        return [WRONG_POINTS]
    return even_answer(plan.top, plan.blocks, t)


def strength_call(plan, numbers):
    """strength ()."""
    sizes = [size_of(block) for block in plan.blocks]
    if len(sizes) == 0 or min(sizes) != max(sizes):
        return [NOT_ALIKE]
    return [sizes[0], greatest_even(plan.top, plan.blocks)]


def degrees_call(plan, numbers):
    """degrees ()."""
    return [count_together(plan.blocks, mask_of([point])) for point in range(1, plan.top + 1)]


def meets_call(plan, numbers):
    """meets ()."""
    return common_sizes(plan.blocks)


def plan_told(plan):
    """How many points, how many blocks, and of each how many points it has, and these."""
    answer = [plan.top, len(plan.blocks)]
    for block in plan.blocks:
        answer.append(size_of(block))
        answer.extend(points_of(block))
    return answer


def reshape(plan, top, blocks):
    """The plan gets these points and blocks, and is told; refused if that's no point."""
    if top == 0:
        return [NO_POINT_LEFT]
    plan.top = top
    plan.blocks = blocks
    return plan_told(plan)


def narrow(plan, kept, blocks):
    """The plan gets the kept points alone, and of these blocks what they have of them."""
    return reshape(plan, len(kept), [renumbered(block, kept) for block in blocks])


def narrow_at_point(plan, point, standing):
    """Around the point, if standing is True; away from it, if it's False."""
    if not rise_within([point], plan.top):
        return [WRONG_POINTS]
    blocks = [block for block in plan.blocks if has(block, point) == standing]
    return narrow(plan, points_besides(plan.top, point), blocks)


def narrow_at_block(plan, number, sides):
    """Inside the block, or outside it: the points of its side, which stands at its number, are kept."""
    if number >= len(plan.blocks):
        return [NO_BLOCK]
    return narrow(plan, points_of(sides[number]), blocks_besides(plan.blocks, number))


def turn_call(plan, numbers):
    """turn ()."""
    return reshape(plan, len(plan.blocks), turned(plan.top, plan.blocks))


def fill_call(plan, numbers):
    """fill ()."""
    return reshape(plan, plan.top, filled(plan.top, plan.blocks))


def around_call(plan, numbers):
    """around (x)."""
    return narrow_at_point(plan, numbers[0], True)


def away_call(plan, numbers):
    """away (x)."""
    return narrow_at_point(plan, numbers[0], False)


def inside_call(plan, numbers):
    """inside (n)."""
    return narrow_at_block(plan, numbers[0], plan.blocks)


def outside_call(plan, numbers):
    """outside (n)."""
    return narrow_at_block(plan, numbers[0], filled(plan.top, plan.blocks))


def classes_call(plan, numbers):
    """classes ()."""
    if 0 in plan.blocks:
        return [NO_POINTS_IN_BLOCK]
    way = first_way(plan.top, plan.blocks)
    if way is None:
        return [NO_WAY]
    answer = [len(way)]
    for members in way:
        answer.append(len(members))
        answer.extend(members)
    return answer


def blocks_call(plan, numbers):
    """blocks ()."""
    return plan_told(plan)


# Each stands at its call's number.
CALLS = (
    points_call,
    block_call,
    gone_call,
    together_call,
    even_call,
    strength_call,
    degrees_call,
    meets_call,
    turn_call,
    fill_call,
    around_call,
    away_call,
    inside_call,
    outside_call,
    classes_call,
    blocks_call,
)


def numbers_start(call, place):
    """Where the numbers of the call at this place begin: a row has its length ahead."""
    if call in ROW_CALLS:
        return place + 2
    return place + 1


def numbers_length(calls, place):
    """How many numbers the call at this place has, without a row's length."""
    if calls[place] in ROW_CALLS:
        return calls[place + 1]
    if calls[place] in NUMBER_CALLS:
        return 1
    return 0


def answers(calls):
    """For each call, in order: how many numbers are answered, then these."""
    plan = Plan()
    told = []
    place = 0
    while place < len(calls):
        call = calls[place]
        start = numbers_start(call, place)
        end = start + numbers_length(calls, place)
        answer = CALLS[call](plan, calls[start:end])
        told.append(len(answer))
        told.extend(answer)
        place = end
    return told
