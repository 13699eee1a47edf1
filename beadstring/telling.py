"""Tells a string from the two polynomials of its answer, from the left, gap by gap and bead by bead."""

from beadstring.ratio import ONE, divided, opposite, sign
from beadstring.polynomials import added, raised, scaled, trimmed


def without_gap(upper, lower, gap):
    """The upper polynomial as it was ahead of the gap on its left."""
    return trimmed(added(upper, scaled(lower, opposite(gap))))


def without_bead(upper, lower, bead):
    """The lower polynomial as it was ahead of the bead; upper is already without the gap on that bead's left."""
    return trimmed(added(lower, scaled(raised(upper, 1), bead)))


def peeled_parts(upper, lower):
    """The pair (gaps, beads), of whatever sign, that has these polynomials; None if there's none.

    Each step takes the highest power off one polynomial, so it can go on only while they're just as long as a
    string's are. What both have in common as a factor is never taken off, so that ends in None too.
    """
    gaps = []
    beads = []
    while len(upper) == len(lower):
        gaps.append(divided(upper[-1], lower[-1]))
        if len(lower) == 1:
            return (gaps, beads)
        upper = without_gap(upper, lower, gaps[-1])
        if len(upper) != len(lower) - 1:
            return None
        beads.append(opposite(divided(lower[-1], upper[-1])))
        lower = without_bead(upper, lower, beads[-1])
    return None


def find_parts(upper, lower):
    """The pair (gaps, beads) of the one string that answers so; None if no string does."""
    upper = trimmed(upper)
    lower = trimmed(lower)
    # Peeling keeps the lower one's first factor, so with a 1 there the lower one never runs out.
    if len(lower) == 0 or lower[0] != ONE:
        return None
    parts = peeled_parts(upper, lower)
    if parts is None or min([sign(part) for part in parts[0] + parts[1]]) < 1:
        return None
    return parts
