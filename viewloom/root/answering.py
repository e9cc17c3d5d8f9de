"""Gives answers to a root."""

from viewloom.errors import AnswerGiven
from viewloom.lanes.schedule import Schedule
from viewloom.passes.instances import walk
from viewloom.root.committing import wake_held
from viewloom.root.deeds import wake
from viewloom.root.working import has_key
from viewloom.values.plain import copy_of, same


def give_answer(root, key, answer):
    """Gives the answer for a key that has none; returns whether the key was asked for."""
    if has_key([known for known, _ in root.answers], key):
        raise AnswerGiven("the key has an answer")
    was_asked = has_key(root.requests, key)
    root.requests = [known for known in root.requests if not same(known, key)]
    word, given = answer
    root.answers.append((copy_of(key), (word, copy_of(given))))
    if has_key(root.held_keys, key):
        wake_held(root)
    if any([instance.waits for instance in walk(root.tree)]):
        wake(root, Schedule.TRANSITION)
    root.schedule.give_up()
    return was_asked
