"""What one list of calls has told so far: its versions and its pending story.

Versions are counted from 0, in the order of the known moments that their commits named.
"""

from knownwhen.limits import PENDING


class History:
    def __init__(self):
        self.known_from = []
        self.versions = []
        self.pending = {}

    def add_version(self, moment):
        self.known_from.append(moment)
        self.versions.append(self.pending)

    def place_of(self, moment):
        for place, named in enumerate(self.known_from):
            if named == moment:
                return place
        return None

    def known_before(self, place):
        return self.versions[place - 1] if place > 0 else {}

    def known_at(self, moment):
        return self.known_before(len([named for named in self.known_from if named <= moment]))

    def known_by_now(self):
        return self.known_before(len(self.versions))

    # Each version, behind the bounds of the known moments at which it is what was known.
    def spans(self):
        return [(self.known_from[place:place + 2], story) for place, story in enumerate(self.versions)]

    def asked(self, moment):
        return self.pending if moment == PENDING else self.known_at(moment)
