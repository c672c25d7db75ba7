"""Writes calls as the one list that answers takes, and reads its answers back, one list a call."""

from knownwhen.stories import answers

NUMBERS = {
    "tell": 0, "deny": 1, "rename": 2, "move": 3, "undo": 4, "recall": 5, "commit": 6, "drop": 7,
    "value": 8, "cut": 9, "timeline": 10, "knowledge": 11, "behind": 12, "mistaken": 13, "picture": 14, "when": 15,
    "difference": 16, "changed": 17, "settled": 18, "commits": 19,
}


def flat(calls):
    numbers = []
    for call in calls:
        numbers.append(NUMBERS[call[0]])
        for argument in call[1:]:
            if isinstance(argument, list):
                numbers.append(len(argument))
                numbers.extend(argument)
            else:
                numbers.append(argument)
    return numbers


def apart(numbers):
    result = []
    place = 0
    while place < len(numbers):
        end = place + 1 + numbers[place]
        if end > len(numbers):
            raise AssertionError("an answer is shorter than its count tells")
        result.append(numbers[place + 1:end])
        place = end
    return result


def run(*calls):
    """The answers of the calls, one list each."""
    result = apart(answers(flat(calls)))
    if len(result) != len(calls):
        raise AssertionError("not one answer a call")
    return result


def last(*calls):
    """The answer of the last of the calls."""
    return run(*calls)[-1]


def along(thing, moments, *calls, known=-1):
    """The thing's value at each of the moments after the calls; None where it has none."""
    asked = [("value", thing, moment, known) for moment in moments]
    found = run(*calls, *asked)[len(calls):]
    return [answer[1] if answer[0] == 1 else None for answer in found]
