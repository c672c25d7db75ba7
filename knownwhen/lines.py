"""Stories, each kept as its lines: a dict from (thing, value) to the bounds of the moments.

A story is never changed where it is: a change makes another, as versions must stay.
"""

from knownwhen.keyed import gathered, keys_of_either
from knownwhen.limits import MOST_BOUNDS, MOST_LINES
from knownwhen.moments import both, holds, just_one


# None stands for no value, as every whole number may be a value.
def value_at(story, thing, moment):
    for line in story:
        if line[0] == thing and holds(story[line], moment):
            return line[1]
    return None


def lines_at(story, moment):
    return sorted([line for line in story if holds(story[line], moment)])


# For each thing of which the stories tell unlike, the bounds of the moments at which they do.
def unlike_by_thing(first, second):
    pairs = []
    for line in keys_of_either(first, second):
        pairs.append((line[0], just_one(first.get(line, []), second.get(line, []))))
    return gathered(pairs)


# The story, but with what source tells of a thing at the moments that places has for it.
def patched(story, source, places):
    result = {}
    for line in keys_of_either(story, source):
        old = story.get(line, [])
        turned = both(just_one(old, source.get(line, [])), places.get(line[0], []))
        bounds = just_one(old, turned)
        if bounds:
            result[line] = bounds
    return result


def fits(story):
    if len(story) > MOST_LINES:
        return False
    return all([len(bounds) <= MOST_BOUNDS for bounds in story.values()])
