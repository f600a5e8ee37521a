"""Blocks in classes, each of which has every point just once."""

from evenblocksdesk.masks import has, lowest_of, mask_of


def with_point(covers, point, starting):
    """The covers, in order, that have this point too; starting are the blocks that begin with it.

    The lower points are in each cover, so only a block that begins with this point can bring it.
    """
    longer = []
    for numbers, points in covers:
        if has(points, point):
            longer.append((numbers, points))
            continue
        for number, block in starting:
            if points & block == 0:
                longer.append((numbers + [number], points | block))
    return longer


def possible_classes(top, blocks):
    """Every class that there may be, as its blocks' numbers in the order in which they're told.

    The classes are in order: the lower number at the first place at which two differ comes first.
    """
    covers = [([], 0)]
    for point in range(1, top + 1):
        starting = [(number, block) for number, block in enumerate(blocks) if lowest_of(block) == point]
        covers = with_point(covers, point, starting)
    return [numbers for numbers, points in covers]


def by_lowest_block(count, classes):
    """For each of the blocks the classes whose lowest block it is, each with its set of numbers."""
    places = [[] for number in range(count)]
    for numbers in classes:
        places[min(numbers)].append((numbers, mask_of(numbers)))
    return places


def one_class_more(ways, every, places):
    """The ways, in order, with the class that comes next, by the set of the blocks that are used.

    How a way goes on hangs only on which blocks are used, so of several with the same ones
    the first is enough. The lower blocks are used, so the next class has the lowest of the rest
    as its own lowest.
    """
    longer = {}
    for used in ways:
        for numbers, members in places[lowest_of(every ^ used)]:
            if used & members == 0 and (used | members) not in longer:
                longer[used | members] = ways[used] + [numbers]
    return longer


def first_way(top, blocks):
    """The first way to put the blocks, none of which is without points, in classes; None if there's none."""
    every = mask_of(list(range(len(blocks))))
    places = by_lowest_block(len(blocks), possible_classes(top, blocks))
    ways = {0: []}
    # Each class has every point once, so all ways with as many classes have used up as much:
    # where one is at its end, there's no other to be gone on with.
    while len(ways) > 0 and every not in ways:
        ways = one_class_more(ways, every, places)
    return ways.get(every)
