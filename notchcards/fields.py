"""The program's one entry: a list of calls on one field and one card."""

from notchcards.calls import answer
from notchcards.desks import Desk
from notchcards.kinds import parted


def answers(calls):
    """For each call, in order, how many numbers it answers, and these."""
    desk = Desk()
    numbers = []
    for number, given in parted(calls):
        answered = answer(desk, number, given)
        numbers.append(len(answered))
        numbers.extend(answered)
    return numbers
