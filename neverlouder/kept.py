"""What a desk keeps: tellings and boxes under names, claims under labels, and their states."""

from neverlouder.boxes import Box
from neverlouder.claims import is_claim, is_true
from neverlouder.commands import claim_parts


class Kept:
    """Things by names, and by labels the words of claims and their states; it never changes."""

    def __init__(self, things, claims, states):
        self.things = things
        self.claims = claims
        self.states = states


class Held:
    """All of a desk: what it keeps, its papers, and its deeds, tuples (line, Kept ahead, Kept behind).

    Papers stand by labels, tuples (words of the claim, word of the claim that is shown, paper). It never changes.
    """

    def __init__(self, kept, papers, done, undone):
        self.kept = kept
        self.papers = papers
        self.done = done
        self.undone = undone


def copied(value):
    """The same with new lists, within tuples too."""
    if isinstance(value, list):
        return [copied(one) for one in value]
    if isinstance(value, tuple):
        return tuple([copied(one) for one in value])
    return value


def is_kept(things, kind, name):
    """Whether a thing of this kind, "one" for a telling, "box", or "name" for both, is kept under a name."""
    if name not in things:
        return False
    return kind == "name" or isinstance(things[name], Box) == (kind == "box")


def claimed_name(text):
    """The name in the words of a claim."""
    return text.split(" ")[1]


def claim_with(text, things):
    """The tuple of a claim's words with what is kept now; None if nothing of the wanted kind is kept."""
    (kind, name), *parts = claim_parts(text)
    if not is_kept(things, kind, name):
        return None
    return text.split(" ")[0], copied(things[name]), *[part for _, part in parts]


def claim_now(text, things):
    """The claim with what is kept now; None while it is gone."""
    found = claim_with(text, things)
    return found if is_claim(found) else None


def _state(text, things):
    claim = claim_now(text, things)
    if claim is None:
        return "gone"
    return "true" if is_true(claim) else "false"


def with_thing(kept, name, thing):
    """With the thing under the name."""
    return _with_things(kept, {**kept.things, name: thing}, name)


def without_thing(kept, name):
    """With nothing under the name."""
    return _with_things(kept, _without(kept.things, name), name)


def _without(table, key):
    return {one: table[one] for one in table if one != key}


def _with_things(kept, things, name):
    """With these things, which differ from those that were kept under this name alone."""
    states = dict(kept.states)
    for label, text in kept.claims.items():
        if claimed_name(text) == name:
            states[label] = _state(text, things)
    return Kept(things, kept.claims, states)


def with_claim(kept, label, text):
    """With the claim of these words under the label."""
    states = {**kept.states, label: _state(text, kept.things)}
    return Kept(kept.things, {**kept.claims, label: text}, states)


def without_claim(kept, label):
    """With nothing under the label."""
    return Kept(kept.things, _without(kept.claims, label), _without(kept.states, label))


def told_states(states, before):
    """The states, of each label that had another one before or none; `-` for none."""
    changed = [label for label in sorted(states) if label not in before or before[label] != states[label]]
    return ", ".join([f"{label} {states[label]}" for label in changed]) or "-"
