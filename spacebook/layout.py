"""How the calls are laid out, and which of their numbers are refused."""

# What a number may be at the most. None is handed in below its least.
HIGHEST = {
    "body": 3,
    "place": 7,
    "to": 1,
    "table": 15,
    "step": 2147483647,
    "turn": 47,
    "kind": 2,
    "times": 8,
    "axis": 2,
    "index": 4294967295,
    "length": 200,
}

# For each call: what its numbers are, one behind another.
NUMBERS = {
    1: ("body",),
    2: ("body", "place", "place", "place"),
    3: ("body", "place", "place", "place", "to"),
    4: ("body", "place", "place", "place", "place", "place", "place", "to"),
    5: ("body", "body", "table"),
    6: ("body", "step", "step", "step"),
    7: ("body", "turn"),
    8: ("body", "kind", "times"),
    9: ("body", "kind", "times"),
    10: ("body", "kind"),
    11: ("body", "kind", "place", "place", "place"),
    12: ("body", "body"),
    13: ("body",),
    14: ("body", "place", "place", "place", "place", "place", "place"),
    15: ("body",),
    16: ("body", "kind"),
    17: ("body", "kind", "index"),
    18: ("body", "place", "place", "place"),
    19: ("body", "place", "place", "place", "place", "place", "place"),
    20: ("body", "place", "place", "place", "place", "place", "place"),
    21: ("body", "axis", "place"),
    22: ("body", "axis"),
    23: ("body",),
    # How many bytes there are; the bytes themselves stand behind it.
    24: ("body", "length"),
    25: ("body",),
    26: ("body",),
    27: ("body", "body"),
}

# The one call with a row of numbers behind the others.
READ = 24


def end_of_call(calls, at):
    """Where the call that begins there ends."""
    end = at + 1 + len(NUMBERS[calls[at]])
    if calls[at] == READ:
        return end + calls[end - 1]
    return end


def refusal(call, numbers):
    """The refusal that is due, or 0: -1 for a set, behind it -2 for the rest.

    Bytes that are no form are refused by what reads them.
    """
    wrong = [name for name, number in zip(NUMBERS[call], numbers) if number > HIGHEST[name]]
    if "body" in wrong:
        return -1
    if len(wrong) > 0:
        return -2
    return 0
