"""Polynomials: lists of fractions, the factor of the power 0 first."""

from beadstring.ratio import ZERO, divided, opposite, plus, times


def factor_of(polynomial, power):
    """The factor of a power, which may lie behind the list's end."""
    return polynomial[power] if power < len(polynomial) else ZERO


def added(one, other):
    longest = max(len(one), len(other))
    return [plus(factor_of(one, power), factor_of(other, power)) for power in range(longest)]


def scaled(polynomial, number):
    return [times(factor, number) for factor in polynomial]


def raised(polynomial, steps):
    """The polynomial times the power that steps tells."""
    return [ZERO] * steps + polynomial


def trimmed(polynomial):
    """The polynomial without factors of 0 at its end."""
    end = len(polynomial)
    while end > 0 and polynomial[end - 1] == ZERO:
        end = end - 1
    return polynomial[:end]


def value_at(polynomial, place):
    value = ZERO
    for power in range(len(polynomial) - 1, -1, -1):
        value = plus(times(value, place), polynomial[power])
    return value


def derivative(polynomial):
    return [times(polynomial[power], (power, 1)) for power in range(1, len(polynomial))]


def remainder(one, other):
    """What is left of one when it's divided by other; both without a factor of 0 at the end, other not empty."""
    rest = one
    while len(rest) >= len(other):
        share = divided(rest[-1], other[-1])
        taken = scaled(raised(other, len(rest) - len(other)), opposite(share))
        rest = trimmed(added(rest, taken))
    return rest


def falling_factors(one, other, count):
    """The factors of the powers -1, -2 and so on in one by other; other's last factor isn't 0, and one is shorter."""
    factors = []
    rest = one
    for step in range(count):
        rest = raised(rest, 1)
        share = divided(factor_of(rest, len(other) - 1), other[-1])
        factors.append(share)
        rest = trimmed(added(rest, scaled(other, opposite(share))))
    return factors
