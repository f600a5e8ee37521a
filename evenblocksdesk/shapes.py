"""Blocks in another shape: turned, filled, and on some of their points alone."""

from evenblocksdesk.masks import has, mask_of, mask_up_to


def turned(top, blocks):
    """For each point the set of the blocks in which it stands, these being numbered from 1."""
    shape = []
    for point in range(1, top + 1):
        shape.append(mask_of([place for place, block in enumerate(blocks, start=1) if has(block, point)]))
    return shape


def filled(top, blocks):
    """For each block the points that it hasn't."""
    every = mask_up_to(top)
    return [every ^ block for block in blocks]


def renumbered(block, kept):
    """What the block has of the kept points, which are numbered from 1 in their order."""
    return mask_of([place for place, point in enumerate(kept, start=1) if has(block, point)])


def points_besides(top, point):
    """All points but this one."""
    return [other for other in range(1, top + 1) if other != point]


def blocks_besides(blocks, number):
    """All blocks but the one with this number."""
    return blocks[:number] + blocks[number + 1:]
