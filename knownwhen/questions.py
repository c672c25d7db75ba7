"""The answers of the calls that change nothing."""

from knownwhen.limits import ANSWER_TOO_LONG, MOST_ANSWERED
from knownwhen.lines import lines_at, value_at


def value(story, thing, moment):
    found = value_at(story, thing, moment)
    return [0] if found is None else [1, found]


def cut(story, moment):
    lines = lines_at(story, moment)
    result = [len(lines)]
    for line in lines:
        result.extend(line)
    return result


def commits(history):
    return [len(history.known_from)] + history.known_from


def short_enough(answer):
    return answer if len(answer) <= MOST_ANSWERED else [ANSWER_TOO_LONG]


def answer_of_question(history, name, arguments):
    if name == "value":
        return value(history.asked(arguments[2]), arguments[0], arguments[1])
    if name == "cut":
        return cut(history.asked(arguments[1]), arguments[0])
    return commits(history)
