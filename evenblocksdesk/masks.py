"""Sets of points, or of blocks' numbers, as whole numbers: p is in a set if its bit p is 1."""


def rise_within(points, top):
    """Whether the points rise and each is one of 1 to top."""
    before = 0
    for point in points:
        if point <= before or point > top:
            return False
        before = point
    return True


def mask_of(points):
    """The set of these points, each of which must be known to be there."""
    mask = 0
    for point in points:
        mask = mask | (1 << point)
    return mask


def mask_up_to(top):
    """The set of the points 1 to top."""
    return mask_of(list(range(1, top + 1)))


def has(mask, point):
    """Whether the point is in the set."""
    return (mask >> point) & 1 == 1


def lowest_of(mask):
    """The lowest point of the set, which must have one."""
    return (mask & -mask).bit_length() - 1


def points_of(mask):
    """The points of the set, rising."""
    return [point for point in range(mask.bit_length()) if has(mask, point)]


def size_of(mask):
    """How many points the set has."""
    size = 0
    rest = mask
    while rest > 0:
        # This drops the lowest bit, so there are no rounds for points that aren't in it.
        rest = rest & (rest - 1)
        size = size + 1
    return size


def count_together(blocks, mask):
    """In how many of the blocks all points of the set stand."""
    return len([block for block in blocks if (block & mask) == mask])


def common_sizes(blocks):
    """For each two blocks, in order, how many points they have in common."""
    sizes = []
    for place, block in enumerate(blocks):
        for other in blocks[place + 1:]:
            sizes.append(size_of(block & other))
    return sizes
