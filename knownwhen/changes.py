"""What each call that changes the pending story makes of it."""

from knownwhen.keyed import keys_of_either
from knownwhen.lines import patched, unlike_by_thing, value_at
from knownwhen.moments import both, without


# The value may be None, as a move can carry over that there is none.
def with_value(story, thing, value, moments):
    source = {}
    if value is not None:
        source[(thing, value)] = moments
    return patched(story, source, {thing: moments})


def renamed(story, old, new, moments):
    source = {}
    places = {}
    for line in story:
        if line[1] == old:
            met = both(story[line], moments)
            source[(line[0], new)] = met
            places[line[0]] = met
    return patched(story, source, places)


def moved(story, thing, before, after):
    if before < after:
        return with_value(story, thing, value_at(story, thing, before - 1), [before, after])
    if after < before:
        return with_value(story, thing, value_at(story, thing, before), [after, before])
    return story


def undone(history, place):
    known_before = history.known_before(place)
    version = history.versions[place]
    made = unlike_by_thing(known_before, version)
    changed_since = unlike_by_thing(version, history.pending)
    places = {}
    for thing in made:
        places[thing] = without(made[thing], changed_since.get(thing, []))
    return patched(history.pending, known_before, places)


def recalled(story, known, moments):
    places = {}
    for line in keys_of_either(story, known):
        places[line[0]] = moments
    return patched(story, known, places)


# An undo that gets here names a commit that is there.
def story_after(history, name, arguments):
    pending = history.pending
    if name == "tell":
        return with_value(pending, arguments[0], arguments[1], arguments[2])
    if name == "deny":
        return with_value(pending, arguments[0], None, arguments[1])
    if name == "rename":
        return renamed(pending, arguments[0], arguments[1], arguments[2])
    if name == "move":
        return moved(pending, arguments[0], arguments[1], arguments[2])
    if name == "undo":
        return undone(history, history.place_of(arguments[0]))
    if name == "recall":
        return recalled(pending, history.known_at(arguments[0]), arguments[1])
    return history.known_by_now()
