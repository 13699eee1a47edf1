"""Reads a list of calls on one string of beads, and answers them in order."""

from beadstring.strand import Strand

NOT_BEGUN = -11

BEGIN = 0
GAP = 1
BEAD = 2
STRING = 3
ANSWER = 4
AT = 5
RINGS = 6
ALL = 7

# How many whole numbers stand behind a call's number, and how many rows behind these. Calls from 8 on are
# listed too: they are refused before a begin like all others, so they must be read past.
WHOLES = (1, 3, 3, 0, 0, 2, 4, 0, 1, 1, 0, 0, 1, 1, 0)
ROWS = (0, 0, 0, 0, 0, 0, 0, 0, 2, 2, 0, 0, 0, 0, 0)


class NotBuilt(Exception):
    """A call that this program doesn't have yet."""


def place_behind(calls, place):
    """Where the call ends that begins at a place of the list."""
    behind = place + 1 + WHOLES[calls[place]]
    for row in range(ROWS[calls[place]]):
        behind = behind + 1 + calls[behind]
    return behind


def answer_begun(strand, number, wholes):
    """What a call on a string that's there answers."""
    if number == GAP:
        return strand.set_gap(wholes[0], wholes[1], wholes[2])
    if number == BEAD:
        return strand.set_bead(wholes[0], wholes[1], wholes[2])
    if number == STRING:
        return strand.all_parts()
    if number == ANSWER:
        return strand.answer()
    if number == AT:
        return strand.answer_at(wholes[0], wholes[1])
    if number == RINGS:
        return strand.rings(wholes[0], wholes[1], wholes[2], wholes[3])
    if number == ALL:
        return strand.all_rings()
    raise NotBuilt(f"call {number} is not built yet")


def answer_call(strand, number, wholes):
    if number == BEGIN:
        return strand.begin(wholes[0])
    if not strand.begun:
        return [NOT_BEGUN]
    return answer_begun(strand, number, wholes)


def answers(calls):
    """For each call, in order: how many numbers are answered, then these."""
    strand = Strand()
    answered = []
    place = 0
    while place < len(calls):
        wholes = calls[place + 1:place + 1 + WHOLES[calls[place]]]
        numbers = answer_call(strand, calls[place], wholes)
        answered.append(len(numbers))
        answered.extend(numbers)
        place = place_behind(calls, place)
    return answered
