"""Courses: how something goes on along moments.

A course is a dict from each state that comes up to the bounds of the moments at which it lasts.
At a moment there is one state at most.
"""

from knownwhen.keyed import gathered
from knownwhen.lines import value_at
from knownwhen.moments import ahead, both, runs


# The thing's values along valid moments.
def told(story, thing):
    result = {}
    for line in story:
        if line[0] == thing:
            result[line[1]] = story[line]
    return result


# The thing's values at one valid moment, along known moments.
def known(history, thing, moment):
    pairs = []
    for span, story in history.spans():
        found = value_at(story, thing, moment)
        if found is not None:
            pairs.append((found, span))
    return gathered(pairs)


# The thing's values along moments, each as it was known so much later.
def believed(history, thing, delay):
    pairs = []
    for span, story in history.spans():
        moments = ahead(span, delay)
        course = told(story, thing)
        for state in course:
            pairs.append((state, both(course[state], moments)))
    return gathered(pairs)


# What all that was told of the thing was along known moments; a state is what entries gives, as a tuple.
def pictured(history, thing):
    pairs = []
    for span, story in history.spans():
        course = told(story, thing)
        if course:
            pairs.append((tuple(entries(course)), span))
    return gathered(pairs)


# A triple for each longest run with the same state, in order: the first moment, the first behind it, the state.
def stretches(course):
    result = []
    for state in course:
        for run in runs(course[state]):
            result.append((run[0], run[1], state))
    return sorted(result)


def entries(course):
    found = stretches(course)
    result = [len(found)]
    for stretch in found:
        result.extend(stretch)
    return result
