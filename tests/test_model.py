"""All calls against a model that goes through moment after moment, straight after the document's words."""

import random
import unittest

from tests.helper import run

# Bounds drawn for a test stay below this many moments, so the last of them stands for all behind it.
SMALL = 12
LARGE = 220


def bounds_of(moments, count):
    result = []
    inside = False
    for moment in range(count):
        if (moment in moments) != inside:
            inside = not inside
            result.append(moment)
    return result


def members(bounds, count):
    return {moment for moment in range(count) if len([b for b in bounds if b <= moment]) % 2 == 1}


class Model:
    """A story is a dict from (thing, moment) to a value."""

    def __init__(self, count):
        self.count = count
        self.versions = []
        self.pending = {}

    def known_at(self, k):
        story = {}
        for moment, version in self.versions:
            if moment <= k:
                story = version
        return story

    def asked(self, k):
        return self.pending if k == -1 else self.known_at(k)

    def too_large(self, story):
        lines = {}
        for (thing, moment), value in story.items():
            lines.setdefault((thing, value), set()).add(moment)
        return len(lines) > 64 or any(len(bounds_of(line, self.count)) > 64 for line in lines.values())

    def change(self, story):
        if self.too_large(story):
            return [-6]
        places = set(story) | set(self.pending)
        unlike = {place[1] for place in places if story.get(place) != self.pending.get(place)}
        self.pending = story
        return [0] + bounds_of(unlike, self.count)

    def put(self, story, thing, moment, value):
        if value is None:
            story.pop((thing, moment), None)
        else:
            story[(thing, moment)] = value

    def tell(self, x, y, s):
        story = dict(self.pending)
        for moment in members(s, self.count):
            story[(x, moment)] = y
        return self.change(story)

    def deny(self, x, s):
        story = dict(self.pending)
        for moment in members(s, self.count):
            story.pop((x, moment), None)
        return self.change(story)

    def rename(self, y, z, s):
        inside = members(s, self.count)
        story = dict(self.pending)
        for place, value in self.pending.items():
            if value == y and place[1] in inside:
                story[place] = z
        return self.change(story)

    def move(self, x, a, b):
        story = dict(self.pending)
        for moment in range(a, b):
            self.put(story, x, moment, self.pending.get((x, a - 1)))
        for moment in range(b, a):
            self.put(story, x, moment, self.pending.get((x, a)))
        return self.change(story)

    def undo(self, k):
        named = [moment for moment, version in self.versions]
        if k not in named:
            return [-3]
        version = self.versions[named.index(k)][1]
        before = self.known_at(k - 1)
        story = dict(self.pending)
        for place in set(version) | set(before):
            made = version.get(place) != before.get(place)
            if made and self.pending.get(place) == version.get(place):
                self.put(story, place[0], place[1], before.get(place))
        return self.change(story)

    def recall(self, k, s):
        inside = members(s, self.count)
        story = {place: value for place, value in self.pending.items() if place[1] not in inside}
        for place, value in self.known_at(k).items():
            if place[1] in inside:
                story[place] = value
        return self.change(story)

    def drop(self):
        return self.change(dict(self.versions[-1][1]) if self.versions else {})

    def commit(self, k):
        if self.versions and k <= self.versions[-1][0]:
            return [-4]
        if len(self.versions) == 64:
            return [-5]
        self.versions.append((k, dict(self.pending)))
        return [len(self.versions)]

    def value(self, x, v, k):
        value = self.asked(k).get((x, v))
        return [0] if value is None else [1, value]

    def cut(self, v, k):
        pairs = sorted((thing, value) for (thing, moment), value in self.asked(k).items() if moment == v)
        return [len(pairs)] + [number for pair in pairs for number in pair]

    def commits(self):
        return [len(self.versions)] + [moment for moment, version in self.versions]


class Draw:
    """Calls drawn from a source that is the same every time."""

    def __init__(self, seed, count, labels, most):
        self.source = random.Random(seed)
        self.count = count
        self.labels = labels
        self.most = most
        self.now = 0

    def label(self):
        return self.source.randrange(-1, self.labels)

    def moment(self):
        return self.source.randrange(self.count)

    def known(self):
        return self.source.randrange(self.now + 2)

    def bounds(self):
        length = self.source.randint(0, self.most)
        return sorted(self.source.sample(range(self.count), length))

    def commit(self):
        self.now += self.source.randrange(3)
        return ("commit", self.now)

    def call(self):
        name = self.source.choice(("tell", "tell", "tell", "deny", "rename", "move", "undo", "recall", "commit",
                                   "commit", "drop", "value", "cut", "commits"))
        if name == "drop" and self.source.random() < 0.6:
            name = "tell"
        made = {
            "tell": lambda: (name, self.label(), self.label(), self.bounds()),
            "deny": lambda: (name, self.label(), self.bounds()),
            "rename": lambda: (name, self.label(), self.label(), self.bounds()),
            "move": lambda: (name, self.label(), self.moment(), self.moment()),
            "undo": lambda: (name, self.known()),
            "recall": lambda: (name, self.known(), self.bounds()),
            "commit": self.commit,
            "drop": lambda: (name,),
            "value": lambda: (name, self.label(), self.moment(), self.known() - 1),
            "cut": lambda: (name, self.moment(), self.known() - 1),
            "commits": lambda: (name,),
        }
        return made[name]()


class AgainstTheModel(unittest.TestCase):
    def compare(self, seed, count, labels, most):
        draw = Draw(seed, count, labels, most)
        calls = [draw.call() for number in range(100)]
        # What the pending story is in the end is looked at moment by moment.
        calls += [("cut", moment, -1) for moment in range(0, count, max(1, count // 20))][:20]
        model = Model(count)
        expected = [getattr(model, call[0])(*call[1:]) for call in calls]
        found = run(*calls)
        for call, one, other in zip(calls, found, expected):
            self.assertEqual(one, other, (seed, call))
        return expected

    def test_few_things_and_few_moments(self):
        refused = []
        for seed in range(150):
            refused += [answer[0] for answer in self.compare(seed, SMALL, 3, 5) if answer[0] < 0]
        self.assertEqual(sorted(set(refused)), [-4, -3])

    def test_many_lines_and_many_bounds(self):
        refused = []
        for seed in range(12):
            refused += [answer[0] for answer in self.compare(seed, LARGE, 12, 64) if answer[0] < 0]
        self.assertEqual(sorted(set(refused)), [-6, -4, -3])


if __name__ == "__main__":
    unittest.main()
