"""Reading the calls out of the one list that is handed in, and the refusals that need nothing else."""

from knownwhen.limits import ACCEPTED, MOST_BOUNDS, MOST_LABEL, MOST_MOMENT, NOT_A_SET, OUT_OF_RANGE, PENDING

NAMES = {
    0: "tell",
    1: "deny",
    2: "rename",
    3: "move",
    4: "undo",
    5: "recall",
    6: "commit",
    7: "drop",
    8: "value",
    9: "cut",
    10: "timeline",
    11: "knowledge",
    12: "behind",
    13: "mistaken",
    14: "picture",
    15: "when",
    16: "difference",
    17: "changed",
    18: "settled",
    19: "commits",
}

# A label is a thing or a value; asked is a known moment, or the pending story in its place;
# a distance between moments has the range of a moment, and stands as one here.
KINDS = {
    "tell": ("label", "label", "set"),
    "deny": ("label", "set"),
    "rename": ("label", "label", "set"),
    "move": ("label", "moment", "moment"),
    "undo": ("moment",),
    "recall": ("moment", "set"),
    "commit": ("moment",),
    "drop": (),
    "value": ("label", "moment", "asked"),
    "cut": ("moment", "asked"),
    "timeline": ("label", "asked"),
    "knowledge": ("label", "moment"),
    "behind": ("label", "moment"),
    "mistaken": ("label", "moment"),
    "picture": ("label",),
    "when": ("label", "label", "moment"),
    "difference": ("asked", "asked"),
    "changed": ("moment",),
    "settled": ("moment",),
    "commits": (),
}


# A pair (name, arguments) for each call; a set is one argument, a list of its own.
def split_calls(calls):
    result = []
    place = 0
    while place < len(calls):
        name = NAMES[calls[place]]
        place += 1
        arguments = []
        for kind in KINDS[name]:
            if kind == "set":
                end = place + 1 + calls[place]
                arguments.append(calls[place + 1:end])
                place = end
            else:
                arguments.append(calls[place])
                place += 1
        result.append((name, arguments))
    return result


def in_range(kind, number):
    if kind == "label":
        return -MOST_LABEL <= number <= MOST_LABEL
    if kind == "asked" and number == PENDING:
        return True
    return 0 <= number <= MOST_MOMENT


def is_set(numbers):
    if len(numbers) > MOST_BOUNDS:
        return False
    before = -1
    for number in numbers:
        if number <= before or number > MOST_MOMENT:
            return False
        before = number
    return True


def refusal_of_form(name, arguments):
    for kind, argument in zip(KINDS[name], arguments):
        if kind != "set" and not in_range(kind, argument):
            return OUT_OF_RANGE
    for kind, argument in zip(KINDS[name], arguments):
        if kind == "set" and not is_set(argument):
            return NOT_A_SET
    return ACCEPTED
