"""How the calls are laid out, and which of their numbers are refused."""

# What a number may be at the most. None is handed in below its least.
HIGHEST = {
    "body": 3,
    "place": 7,
    "to": 1,
    "table": 15,
    "step": 2147483647,
    "turn": 47,
    "kind": 2,
    "times": 8,
}

# For each call: what its numbers are, one behind another.
NUMBERS = {
    1: ("body",),
    2: ("body", "place", "place", "place"),
    3: ("body", "place", "place", "place", "to"),
    4: ("body", "place", "place", "place", "place", "place", "place", "to"),
    5: ("body", "body", "table"),
    6: ("body", "step", "step", "step"),
    7: ("body", "turn"),
    8: ("body", "kind", "times"),
    9: ("body", "kind", "times"),
    10: ("body", "kind"),
    11: ("body", "kind", "place", "place", "place"),
    12: ("body", "body"),
    13: ("body",),
    14: ("body", "place", "place", "place", "place", "place", "place"),
}


def how_many_numbers(call):
    """How many numbers stand behind the number of that call."""
    return len(NUMBERS[call])


def refusal(call, numbers):
    """The refusal that is due, or 0: -1 for a set, behind it -2 for the rest."""
    wrong = [name for name, number in zip(NUMBERS[call], numbers) if number > HIGHEST[name]]
    if "body" in wrong:
        return -1
    if len(wrong) > 0:
        return -2
    return 0
