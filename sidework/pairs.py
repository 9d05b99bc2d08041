"""Pairs: plans for two hands with as few ticks as any, and blocks that show it."""

from sidework.breadth import all_later
from sidework.hands import plan_by
from sidework.roads import before_pairs


def all_ranks(before, some):
    """A dict from each of some to its rank, 1 and on, rising: of two that are free the higher rank is taken first.

    The next rank goes to a deed behind which all have ranks, the one for which these, the highest first, are least.
    By such ranks two hands never need a tick too many: they are Coffman and Graham's, but taken by all that is behind
    a deed, where theirs are by what is right behind it. Their proof holds for these too.
    """
    later = all_later(before, some)
    ranks = {}
    left = some
    while left:
        free = [p for p in left if all(q in ranks for q in later[p])]
        chosen = min([(sorted([ranks[q] for q in later[p]], reverse=True), p) for p in free])[1]
        ranks[chosen] = len(ranks) + 1
        left = [p for p in left if p != chosen]
    return ranks


def blocks_by(ticks, ranks):
    """Blocks whose halves, rounded up, are as many as the ticks; in each tick the one of the higher rank leads.

    From the last tick backwards the leader of a tick begins a block where nothing stands beside it, or what ranks
    lower than the leader that began the block behind; else the whole tick goes into that block. Such a low one was
    taken only as nothing of the block behind was free yet: this is why each of the new block comes before each of it.
    """
    blocks = []
    bound = len(ranks) + 1
    for tick in reversed(ticks):
        beside = ranks[tick[1]] if len(tick) > 1 else 0
        if beside < bound:
            bound = ranks[tick[0]]
            blocks.append([tick[0]])
        else:
            blocks[-1].extend(tick)
    blocks.reverse()
    return [sorted(block) for block in blocks]


def two_hands(book, some):
    """(plan, blocks): a plan of some for two hands with as few ticks as any, and blocks of some that show it."""
    before = before_pairs(book, some)
    ranks = all_ranks(before, some)
    urgent_first = list(ranks)
    urgent_first.reverse()
    ticks = plan_by(before, urgent_first, 2)
    return [sorted(tick) for tick in ticks], blocks_by(ticks, ranks)


def are_blocks(book, some, blocks):
    """Whether the lists are blocks of some, however many halves these have."""
    if any(len(block) == 0 or block != sorted(block) for block in blocks):
        return False
    places = [place for block in blocks for place in block]
    if len(set(places)) < len(places) or any(place not in some for place in places):
        return False
    before = before_pairs(book, places)
    for ahead, behind in zip(blocks, blocks[1:]):
        if any((p, q) not in before for p in ahead for q in behind):
            return False
    return True
