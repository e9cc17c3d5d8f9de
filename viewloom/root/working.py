"""Makes the passes of a root."""

from viewloom.passes.passing import Pass
from viewloom.root.committing import commit, end_tree
from viewloom.values.plain import copy_of, same

MOST_PASSES = 20


class Draft:
    """A pass with some lanes that was made, and what it returned."""

    def __init__(self, lanes, made, outcome):
        self.lanes = lanes
        self.made = made
        self.outcome = outcome


def draft_of(root, lanes):
    """Returns the Draft of a pass with some lanes, which changes nothing."""
    made = Pass(root.program, lanes, stores=root.stores, answers=root.answers, next_id=root.next_id)
    return Draft(lanes, made, made.run(root.component, root.parameters, root.tree[0] if root.tree else None))


def finish(root, draft):
    """Ends a pass that was made."""
    root.rendered = list(draft.made.rendered)
    for key in draft.made.asked:
        if not has_key(root.requests, key):
            root.requests.append(copy_of(key))
    word, found = draft.outcome
    if word == "tree":
        root.next_id = draft.made.next_id
        commit(root, draft.lanes, found)
    elif word == "fails":
        end_tree(root, found)
    else:
        hold(root, draft.lanes, found)


def has_key(keys, key):
    """Returns whether a key is among keys."""
    return any([same(known, key) for known in keys])


def hold(root, lanes, keys):
    """Ends a pass that waits or holds for keys."""
    root.schedule.end(lanes)
    root.held_lanes = root.held_lanes + [lane for lane in lanes if lane not in root.held_lanes]
    for key in keys:
        if not has_key(root.held_keys, key):
            root.held_keys.append(copy_of(key))


def next_pass(root):
    """Returns None, or the lanes of the next pass and whether it is whole."""
    return root.schedule.next_pass(now=root.clock)


def is_settled(root):
    """Returns whether no whole pass is next."""
    following = next_pass(root)
    return following is None or not following[1]


def settle(root):
    """Makes the whole passes that are next, as many as there may be in a row; returns whether the root is settled."""
    for _ in range(MOST_PASSES):
        if is_settled(root):
            return True
        finish(root, draft_of(root, next_pass(root)[0]))
    return is_settled(root)


def do_portions(root, count):
    """Does a number of portions; returns whether the root is settled."""
    if not settle(root):
        return False
    draft = None
    for _ in range(count):
        following = next_pass(root)
        if following is None:
            return True
        if draft is None:
            # Nothing changes until the portion that ends it, so that the pass is made once for all of them.
            draft = draft_of(root, following[0])
        if root.schedule.portion(draft.made.cost):
            finish(root, draft)
            draft = None
            if not settle(root):
                return False
    return True


def make_passes(root):
    """Makes next passes until no lane is pending, as many as there may be; returns whether none is."""
    for _ in range(MOST_PASSES):
        following = next_pass(root)
        if following is None:
            return True
        finish(root, draft_of(root, following[0]))
    return next_pass(root) is None
