"""The answers of the calls that change nothing."""

from knownwhen.courses import believed, entries, known, pictured, stretches, told
from knownwhen.keyed import unlike
from knownwhen.limits import ANSWER_TOO_LONG, MOST_ANSWERED
from knownwhen.lines import lines_at, unlike_by_thing, value_at


def counted(numbers):
    return [len(numbers)] + numbers


def value(story, thing, moment):
    found = value_at(story, thing, moment)
    return [0] if found is None else [1, found]


def cut(story, moment):
    lines = lines_at(story, moment)
    result = [len(lines)]
    for line in lines:
        result.extend(line)
    return result


def mistaken(history, thing, delay):
    return counted(unlike(believed(history, thing, delay), told(history.known_by_now(), thing)))


def picture(history, thing):
    sheets = stretches(pictured(history, thing))
    result = [len(sheets)]
    for first, behind, told_then in sheets:
        result.extend((first, behind) + told_then)
    return result


def difference(first, second):
    by_thing = unlike_by_thing(first, second)
    result = [len(by_thing)]
    for thing in sorted(by_thing):
        result.append(thing)
        result.extend(counted(by_thing[thing]))
    return result


def changed(history, moment):
    place = history.place_of(moment)
    return counted(unlike(history.known_before(place), history.versions[place]))


def settled(history, moment):
    now = lines_at(history.known_by_now(), moment)
    result = 0
    for place, known_from in enumerate(history.known_from):
        if lines_at(history.known_before(place), moment) != now:
            result = known_from
    return [result]


def short_enough(answer):
    return answer if len(answer) <= MOST_ANSWERED else [ANSWER_TOO_LONG]


# A changed that gets here names a commit that is there.
def answer_of_question(history, name, arguments):
    if name == "value":
        return value(history.asked(arguments[2]), arguments[0], arguments[1])
    if name == "cut":
        return cut(history.asked(arguments[1]), arguments[0])
    if name == "timeline":
        return entries(told(history.asked(arguments[1]), arguments[0]))
    if name == "knowledge":
        return entries(known(history, arguments[0], arguments[1]))
    if name == "behind":
        return entries(believed(history, arguments[0], arguments[1]))
    if name == "mistaken":
        return mistaken(history, arguments[0], arguments[1])
    if name == "picture":
        return picture(history, arguments[0])
    if name == "when":
        return counted(known(history, arguments[0], arguments[2]).get(arguments[1], []))
    if name == "difference":
        return difference(history.asked(arguments[0]), history.asked(arguments[1]))
    if name == "changed":
        return changed(history, arguments[0])
    if name == "settled":
        return settled(history, arguments[0])
    return counted(history.known_from)
