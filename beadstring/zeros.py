"""How many different zeros a polynomial has, counted exactly by Sturm's chain.

The polynomials have no zero twice and no factor of 0 at the end; a string's always are so.
"""

from beadstring.ratio import opposite, sign
from beadstring.polynomials import derivative, remainder, value_at


def sturm_chain(polynomial):
    chain = [polynomial]
    following = derivative(polynomial)
    while len(following) > 0:
        chain.append(following)
        following = [opposite(factor) for factor in remainder(chain[-2], following)]
    return chain


def sign_changes(signs):
    """How often the sign changes from one to the next, zeros left out."""
    changes = 0
    last = 0
    for here in signs:
        if here * last < 0:
            changes = changes + 1
        if here != 0:
            last = here
    return changes


def changes_at(chain, place):
    return sign_changes([sign(value_at(member, place)) for member in chain])


def changes_far_right(chain):
    return sign_changes([sign(member[-1]) for member in chain])


def sign_far_left(polynomial):
    """An odd power turns the sign of the last factor; the last power is one less than there are factors."""
    far_right = sign(polynomial[-1])
    return -far_right if len(polynomial) % 2 == 0 else far_right


def changes_far_left(chain):
    return sign_changes([sign_far_left(member) for member in chain])


def zeros_between(polynomial, left, right):
    """Zeros above left and not above right: leaving zeros out of the signs counts a bound just so."""
    chain = sturm_chain(polynomial)
    return changes_at(chain, left) - changes_at(chain, right)


def zeros_above(polynomial, left):
    chain = sturm_chain(polynomial)
    return changes_at(chain, left) - changes_far_right(chain)


def zeros_everywhere(polynomial):
    chain = sturm_chain(polynomial)
    return changes_far_left(chain) - changes_far_right(chain)
