"""The way in: a list of calls, and what they answer."""

from spacebook.acts import act
from spacebook.layout import end_of_call, refusal


def answers(calls):
    """What the calls answer, each answer behind how many numbers it has."""
    bodies = [0, 0, 0, 0]
    told = []
    at = 0
    while at < len(calls):
        end = end_of_call(calls, at)
        answer = answer_to(calls[at], bodies, calls[at + 1:end])
        told.append(len(answer))
        told.extend(answer)
        at = end
    return told


def answer_to(call, bodies, numbers):
    """What that call answers; a refused one changes no body."""
    refused = refusal(call, numbers)
    if refused != 0:
        return [refused]
    return act(call, bodies, numbers)
