"""Hands: plans by which hands share deeds, tick by tick, and chains, which no plan can cut short."""

from sidework.breadth import hold_each_once
from sidework.roads import before_pairs


def plan_by(before, order, h):
    """A plan that takes at each tick, of all whose earlier ones are in earlier ticks, the first h in this order."""
    plan = []
    left = order
    # Without a hand no deed is ever taken.
    while left and h > 0:
        free = [q for q in left if not any((p, q) in before for p in left)]
        tick = free[:h]
        plan.append(tick)
        left = [place for place in left if place not in tick]
    return plan


def eager(book, some, h):
    """The eager plan of some for h hands: the least places first."""
    return plan_by(before_pairs(book, some), some, h)


def longest(book, some):
    """A chain of some, as long as any."""
    before = before_pairs(book, some)
    chains = {}
    # What comes before another one has the lesser place, so the chains that end with it are known already.
    for q in some:
        ahead = [chains[p] for p in some if (p, q) in before]
        chains[q] = max(ahead, key=len, default=[]) + [q]
    return max(list(chains.values()), key=len, default=[])


def is_plan(book, some, h, plan):
    """Whether the lists are a plan of some for h hands."""
    if not hold_each_once(plan, some):
        return False
    if any(len(tick) > h or tick != sorted(tick) for tick in plan):
        return False
    ticks = {place: number for number, tick in enumerate(plan) for place in tick}
    return all(ticks[p] < ticks[q] for p, q in before_pairs(book, some))
