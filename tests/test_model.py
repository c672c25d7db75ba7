"""All calls against a model that goes through moment after moment, straight after the document's words."""

import random
import unittest

from tests.helper import run

# Bounds drawn for a test stay below this many moments, so the last of them stands for all behind it.
SMALL = 12
LARGE = 220

CHANGES = ("tell", "tell", "tell", "deny", "rename", "move", "undo", "recall", "commit", "commit", "commit", "drop")
QUESTIONS = ("value", "cut", "timeline", "knowledge", "behind", "mistaken", "picture", "when", "difference", "changed",
             "settled", "commits")


def bounds_of(moments, count):
    result = []
    inside = False
    for moment in range(count):
        if (moment in moments) != inside:
            inside = not inside
            result.append(moment)
    return result


def members(bounds, count):
    return {moment for moment in range(count) if len([b for b in bounds if b <= moment]) % 2 == 1}


def entries_of(values):
    """The entries of values, one a moment, the last of which stays for ever; None is none."""
    result = []
    for moment, value in enumerate(values):
        if value is None or (moment > 0 and values[moment - 1] == value):
            continue
        behind = moment
        while behind < len(values) and values[behind] == value:
            behind += 1
        result.append((moment, behind if behind < len(values) else -1, value))
    return result


def told_flat(entries):
    return [len(entries)] + [number for entry in entries for number in entry]


def told_bounds(moments, count):
    bounds = bounds_of(moments, count)
    return [len(bounds)] + bounds


class Model:
    """A story is a dict from (thing, moment) to a value."""

    def __init__(self, count):
        self.count = count
        self.versions = []
        self.pending = {}

    def known_at(self, k):
        story = {}
        for moment, version in self.versions:
            if moment <= k:
                story = version
        return story

    def asked(self, k):
        return self.pending if k == -1 else self.known_at(k)

    def too_large(self, story):
        lines = {}
        for (thing, moment), value in story.items():
            lines.setdefault((thing, value), set()).add(moment)
        return len(lines) > 64 or any(len(bounds_of(line, self.count)) > 64 for line in lines.values())

    def change(self, story):
        if self.too_large(story):
            return [-6]
        places = set(story) | set(self.pending)
        unlike = {place[1] for place in places if story.get(place) != self.pending.get(place)}
        self.pending = story
        return [0] + bounds_of(unlike, self.count)

    def put(self, story, thing, moment, value):
        if value is None:
            story.pop((thing, moment), None)
        else:
            story[(thing, moment)] = value

    def tell(self, x, y, s):
        story = dict(self.pending)
        for moment in members(s, self.count):
            story[(x, moment)] = y
        return self.change(story)

    def deny(self, x, s):
        story = dict(self.pending)
        for moment in members(s, self.count):
            story.pop((x, moment), None)
        return self.change(story)

    def rename(self, y, z, s):
        inside = members(s, self.count)
        story = dict(self.pending)
        for place, value in self.pending.items():
            if value == y and place[1] in inside:
                story[place] = z
        return self.change(story)

    def move(self, x, a, b):
        story = dict(self.pending)
        for moment in range(a, b):
            self.put(story, x, moment, self.pending.get((x, a - 1)))
        for moment in range(b, a):
            self.put(story, x, moment, self.pending.get((x, a)))
        return self.change(story)

    def undo(self, k):
        named = [moment for moment, version in self.versions]
        if k not in named:
            return [-3]
        version = self.versions[named.index(k)][1]
        before = self.known_at(k - 1)
        story = dict(self.pending)
        for place in set(version) | set(before):
            made = version.get(place) != before.get(place)
            if made and self.pending.get(place) == version.get(place):
                self.put(story, place[0], place[1], before.get(place))
        return self.change(story)

    def recall(self, k, s):
        inside = members(s, self.count)
        story = {place: value for place, value in self.pending.items() if place[1] not in inside}
        for place, value in self.known_at(k).items():
            if place[1] in inside:
                story[place] = value
        return self.change(story)

    def drop(self):
        return self.change(dict(self.versions[-1][1]) if self.versions else {})

    def commit(self, k):
        if self.versions and k <= self.versions[-1][0]:
            return [-4]
        if len(self.versions) == 64:
            return [-5]
        self.versions.append((k, dict(self.pending)))
        return [len(self.versions)]

    def value(self, x, v, k):
        value = self.asked(k).get((x, v))
        return [0] if value is None else [1, value]

    def cut(self, v, k):
        pairs = sorted((thing, value) for (thing, moment), value in self.asked(k).items() if moment == v)
        return [len(pairs)] + [number for pair in pairs for number in pair]

    def commits(self):
        return [len(self.versions)] + [moment for moment, version in self.versions]

    def by_now(self):
        return self.versions[-1][1] if self.versions else {}

    def known_moments(self):
        """So many that the last of them stands for all behind it."""
        return range(self.versions[-1][0] + 2 if self.versions else 2)

    def moments(self):
        return range(max(self.count, len(self.known_moments())))

    def told(self, story, x, v):
        return story.get((x, min(v, self.count - 1)))

    def entries(self, story, x):
        return entries_of([self.told(story, x, v) for v in range(self.count)])

    def timeline(self, x, k):
        return told_flat(self.entries(self.asked(k), x))

    def knowledge(self, x, v):
        return told_flat(entries_of([self.told(self.known_at(k), x, v) for k in self.known_moments()]))

    def behind(self, x, n):
        return told_flat(entries_of([self.told(self.known_at(m + n), x, m) for m in self.moments()]))

    def mistaken(self, x, n):
        found = [m for m in self.moments()
                 if self.told(self.known_at(m + n), x, m) != self.told(self.by_now(), x, m)]
        return told_bounds(found, len(self.moments()))

    def picture(self, x):
        states = [tuple(self.entries(self.known_at(k), x)) or None for k in self.known_moments()]
        sheets = entries_of(states)
        result = [len(sheets)]
        for first, behind, entries in sheets:
            result += [first, behind] + told_flat(entries)
        return result

    def when(self, x, y, v):
        found = [k for k in self.known_moments() if self.told(self.known_at(k), x, v) == y]
        return told_bounds(found, len(self.known_moments()))

    def difference(self, j, k):
        first, second = self.asked(j), self.asked(k)
        unlike = {}
        for place in set(first) | set(second):
            if first.get(place) != second.get(place):
                unlike.setdefault(place[0], set()).add(place[1])
        result = [len(unlike)]
        for thing in sorted(unlike):
            result += [thing] + told_bounds(unlike[thing], self.count)
        return result

    def changed(self, k):
        if k not in [moment for moment, version in self.versions]:
            return [-3]
        version, before = self.known_at(k), self.known_at(k - 1)
        unlike = [place[1] for place in set(version) | set(before) if version.get(place) != before.get(place)]
        return told_bounds(unlike, self.count)

    def settled(self, v):
        now = self.cut_of(self.by_now(), v)
        unlike = [k for k in self.known_moments() if self.cut_of(self.known_at(k), v) != now]
        return [max(unlike) + 1 if unlike else 0]

    def cut_of(self, story, v):
        return {thing: value for (thing, moment), value in story.items() if moment == v}

    def answer(self, call):
        answer = getattr(self, call[0])(*call[1:])
        return answer if len(answer) <= 8000 else [-30]


class Draw:
    """Calls drawn from a source that is the same every time."""

    def __init__(self, seed, count, things, values, most, step, share):
        self.source = random.Random(seed)
        self.count = count
        self.things = things
        self.values = values
        self.most = most
        self.step = step
        self.share = share
        self.named = [0]

    def thing(self):
        return self.source.randrange(-1, self.things)

    def value(self):
        return self.source.randrange(-1, self.values)

    def moment(self):
        return self.source.randrange(self.count)

    def known(self):
        if self.source.random() < 0.5:
            return self.source.choice(self.named)
        return self.source.randrange(self.named[-1] + 2)

    def bounds(self):
        length = self.source.randint(0, self.most)
        return sorted(self.source.sample(range(self.count), length))

    def commit(self):
        self.named.append(self.named[-1] + self.source.randrange(self.step))
        return ("commit", self.named[-1])

    def asked(self):
        return -1 if self.source.random() < 0.3 else self.known()

    def call(self):
        name = self.source.choice(CHANGES if self.source.random() < self.share else QUESTIONS)
        if name == "drop" and self.source.random() < 0.6:
            name = "tell"
        made = {
            "tell": lambda: (name, self.thing(), self.value(), self.bounds()),
            "deny": lambda: (name, self.thing(), self.bounds()),
            "rename": lambda: (name, self.value(), self.value(), self.bounds()),
            "move": lambda: (name, self.thing(), self.moment(), self.moment()),
            "undo": lambda: (name, self.known()),
            "recall": lambda: (name, self.known(), self.bounds()),
            "commit": self.commit,
            "drop": lambda: (name,),
            "value": lambda: (name, self.thing(), self.moment(), self.asked()),
            "cut": lambda: (name, self.moment(), self.asked()),
            "timeline": lambda: (name, self.thing(), self.asked()),
            "knowledge": lambda: (name, self.thing(), self.moment()),
            "behind": lambda: (name, self.thing(), self.known()),
            "mistaken": lambda: (name, self.thing(), self.known()),
            "picture": lambda: (name, self.thing()),
            "when": lambda: (name, self.thing(), self.value(), self.moment()),
            "difference": lambda: (name, self.asked(), self.asked()),
            "changed": lambda: (name, self.known()),
            "settled": lambda: (name, self.moment()),
            "commits": lambda: (name,),
        }
        return made[name]()


class AgainstTheModel(unittest.TestCase):
    def compare(self, seed, *drawn):
        draw = Draw(seed, *drawn)
        calls = [draw.call() for number in range(100)]
        # What the pending story is in the end is looked at moment by moment.
        calls += [("cut", moment, -1) for moment in range(0, draw.count, max(1, draw.count // 20))][:20]
        model = Model(draw.count)
        expected = [model.answer(call) for call in calls]
        found = run(*calls)
        for call, one, other in zip(calls, found, expected):
            self.assertEqual(one, other, (seed, call))
        return expected

    def refusals(self, seeds, *drawn):
        return {answer[0] for seed in range(seeds) for answer in self.compare(seed, *drawn) if answer[0] < 0}

    def test_few_things_and_few_moments(self):
        self.assertEqual(self.refusals(200, SMALL, 3, 3, 5, 3, 0.6), {-4, -3})

    def test_many_lines_and_many_bounds(self):
        self.assertEqual(self.refusals(20, LARGE, 12, 12, 64, 20, 0.85), {-6, -4, -3})

    def test_one_thing_with_many_entries(self):
        self.assertEqual(self.refusals(20, LARGE, 0, 12, 64, 20, 0.8), {-6, -4, -3})


if __name__ == "__main__":
    unittest.main()
