"""What is told, made known commit by commit, and asked: the calls on one object and their answers."""

from knownwhen.changes import story_after
from knownwhen.history import History
from knownwhen.keyed import unlike
from knownwhen.limits import ACCEPTED, MOST_VERSIONS, NO_SUCH_COMMIT, NOT_LATER, STORY_TOO_LARGE, TOO_MANY_VERSIONS
from knownwhen.lines import fits
from knownwhen.questions import answer_of_question, short_enough
from knownwhen.reading import refusal_of_form, split_calls

CHANGES = ("tell", "deny", "rename", "move", "undo", "recall", "drop")
NAMING_A_COMMIT = ("undo", "changed")


def change(history, name, arguments):
    story = story_after(history, name, arguments)
    if not fits(story):
        return [STORY_TOO_LARGE]
    changed = unlike(history.pending, story)
    history.pending = story
    return [0] + changed


def commit(history, moment):
    if history.known_from and moment <= history.known_from[-1]:
        return [NOT_LATER]
    if len(history.versions) >= MOST_VERSIONS:
        return [TOO_MANY_VERSIONS]
    history.add_version(moment)
    return [len(history.versions)]


def answer_of_call(history, name, arguments):
    refusal = refusal_of_form(name, arguments)
    if refusal != ACCEPTED:
        return [refusal]
    if name in NAMING_A_COMMIT and history.place_of(arguments[0]) is None:
        return [NO_SUCH_COMMIT]
    if name in CHANGES:
        return change(history, name, arguments)
    if name == "commit":
        return commit(history, arguments[0])
    return short_enough(answer_of_question(history, name, arguments))


def answers(calls):
    history = History()
    result = []
    for call in split_calls(calls):
        answer = answer_of_call(history, call[0], call[1])
        result.append(len(answer))
        result.extend(answer)
    return result
