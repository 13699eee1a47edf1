"""Reads a list of calls on one string of beads, and answers them in order."""

from beadstring.strand import Strand

NOT_BEGUN = -11

BEGIN = 0
GAP = 1
BEAD = 2
STRING = 3
ANSWER = 4
AT = 5
RINGS = 6
ALL = 7
TOLD = 8
TAKE = 9
FOUND = 10
TURN = 11
JOIN = 12
MEANS = 13

# How many whole numbers stand behind a call's number, and how many rows behind these.
WHOLES = (1, 3, 3, 0, 0, 2, 4, 0, 1, 1, 0, 0, 1, 1, 0)
ROWS = (0, 0, 0, 0, 0, 0, 0, 0, 2, 2, 0, 0, 0, 0, 0)


def read_rows(calls, place, count):
    """The rows that stand one behind another from a place on, each with its length before it."""
    rows = []
    for row in range(count):
        behind = place + 1 + calls[place]
        rows.append(calls[place + 1:behind])
        place = behind
    return rows


def answer_changing(strand, number, wholes, rows):
    """What a call answers that may change the string that's there."""
    if number == GAP:
        return strand.set_gap(wholes[0], wholes[1], wholes[2])
    if number == BEAD:
        return strand.set_bead(wholes[0], wholes[1], wholes[2])
    if number == TAKE:
        return strand.take(wholes[0], rows[0], rows[1])
    if number == TURN:
        return strand.turn()
    return strand.join_gaps(wholes[0])


def answer_asking(strand, number, wholes, rows):
    """What a call answers that leaves the string that's there as it is."""
    if number == STRING:
        return strand.all_parts()
    if number == ANSWER:
        return strand.answer()
    if number == AT:
        return strand.answer_at(wholes[0], wholes[1])
    if number == RINGS:
        return strand.rings(wholes[0], wholes[1], wholes[2], wholes[3])
    if number == ALL:
        return strand.all_rings()
    if number == TOLD:
        return strand.told(wholes[0], rows[0], rows[1])
    if number == FOUND:
        return strand.found()
    if number == MEANS:
        return strand.means(wholes[0])
    return strand.measures()


def answer_call(strand, number, wholes, rows):
    if number == BEGIN:
        return strand.begin(wholes[0])
    if not strand.begun:
        return [NOT_BEGUN]
    if number in (GAP, BEAD, TAKE, TURN, JOIN):
        return answer_changing(strand, number, wholes, rows)
    return answer_asking(strand, number, wholes, rows)


def answers(calls):
    """For each call, in order: how many numbers are answered, then these."""
    strand = Strand()
    answered = []
    place = 0
    while place < len(calls):
        number = calls[place]
        behind = place + 1 + WHOLES[number]
        wholes = calls[place + 1:behind]
        rows = read_rows(calls, behind, ROWS[number])
        numbers = answer_call(strand, number, wholes, rows)
        answered.append(len(numbers))
        answered.extend(numbers)
        place = behind + sum([1 + len(row) for row in rows])
    return answered
