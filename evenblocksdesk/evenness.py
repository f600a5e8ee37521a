"""Whether any t points stand together in as many blocks."""

from evenblocksdesk.masks import common_sizes, count_together, mask_of, size_of


def one_longer(choices, top):
    """The choices with one point more; where the given ones are in order, so are these."""
    longer = []
    for choice in choices:
        lowest = choice[-1] + 1 if len(choice) > 0 else 1
        for point in range(lowest, top + 1):
            longer.append(choice + [point])
    return longer


def choices_of(top, t):
    """All choices of t of the points 1 to top, in order."""
    choices = [[]]
    for step in range(t):
        choices = one_longer(choices, top)
    return choices


def even_answer(top, blocks, t):
    """What the call even answers, if t isn't refused."""
    choices = choices_of(top, t)
    first = count_together(blocks, mask_of(choices[0]))
    for choice in choices:
        count = count_together(blocks, mask_of(choice))
        if count != first:
            return [0, first, count] + choice
    return [1, first]


def ways(count, t):
    """How many choices of t there are among count points."""
    product = 1
    for step in range(t):
        product = product * (count - step) // (step + 1)
    return product


def is_even(top, sizes, commons, t):
    """Whether it's even for t, from the blocks' sizes and what each two have in common.

    Of twenty points there may be 184756 choices, so they aren't walked. For each
    choice let c be in how many blocks it stands. The sum of all c counts the choices
    within each block; the sum of all c * c counts those within each ordered pair of
    blocks. All c are the same just if their spread is 0: if the number of choices,
    times the sum of the squares, is the square of the sum.
    """
    total = sum([ways(size, t) for size in sizes])
    squares = total + 2 * sum([ways(common, t) for common in commons])
    return ways(top, t) * squares == total * total


def greatest_even(top, blocks):
    """The greatest t for which, as for all less, it's even; the blocks are of one size."""
    sizes = [size_of(block) for block in blocks]
    commons = common_sizes(blocks)
    t = 0
    while t < sizes[0] and is_even(top, sizes, commons, t + 1):
        t = t + 1
    return t
