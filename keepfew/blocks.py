"""Blocks of wishes, by which no shelf misses much fewer than a cold one."""

from keepfew.goings import going


def blocks(places, wishes):
    """The first and the last number of each block of wishes."""
    # going refuses wrong places and wrong wishes, in this order.
    told = going("cold", places, wishes)
    missed = [at for at, met in enumerate(told.were_met) if not met]
    firsts = _firsts(places, missed)
    found = []
    end = len(wishes)
    for first in reversed(firsts):
        found.append((first, end - 1))
        end = first
    return found[::-1]


def _firsts(places, missed):
    """With which missed wishes the blocks begin."""
    # Only the first block may have fewer missed wishes than there are places, so
    # those that are left over come in front.
    left = len(missed) % places
    firsts = missed[left::places]
    if left > 0:
        return missed[:1] + firsts
    return firsts
