"""Dicts from keys to the bounds of their moments: the form that stories and courses share.

A key without moments is not kept, so that what tells the same always has the same keys.
"""

from knownwhen.moments import any_of, just_one


def keys_of_either(first, second):
    return list(first) + [key for key in second if key not in first]


# The pairs are of a key and a set; a key that comes several times gets the moments of all its sets.
def gathered(pairs):
    parts = {}
    for key, bounds in pairs:
        parts[key] = parts.get(key, []) + [bounds]
    result = {}
    for key in parts:
        moments = any_of(parts[key])
        if moments:
            result[key] = moments
    return result


# The moments at which some key is told by one of the two alone.
def unlike(first, second):
    return any_of([just_one(first.get(key, []), second.get(key, [])) for key in keys_of_either(first, second)])
