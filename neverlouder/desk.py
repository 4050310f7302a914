"""Desks: they keep tellings and boxes under names, and claims of them under labels."""

from neverlouder.asked import asked_of
from neverlouder.basics import is_list
from neverlouder.claims import contrary, is_claim, is_paper_of
from neverlouder.commands import DEEDS, is_deed, is_name, parsed
from neverlouder.deeds import made_by
from neverlouder.errors import (
    BoxError, CommandFailed, InvalidClaim, InvalidCommand, InvalidLines, InvalidPaper, LabelTaken, LimitError,
    MissingError, NameTaken, NothingToRedo, NothingToUndo, StateError, TooMany, UnknownLabel, UnknownName,
)
from neverlouder.kept import (
    Held, Kept, claim_now, claim_with, copied, is_kept, told_states, with_claim, with_thing, without_claim,
    without_thing,
)

MOST_NAMES = 12
MOST_LABELS = 12
MOST_DEEDS = 300
THING_KINDS = ("one", "box", "name")


class Desk:
    """Tellings and boxes under names, claims under labels, and the deeds that made them so."""

    def __init__(self):
        # What is held never changes: a desk changes by holding another one.
        self.held = Held(Kept({}, {}, {}), {}, (), ())

    @property
    def names(self):
        """The sorted list of the names."""
        return sorted(self.held.kept.things)

    @property
    def labels(self):
        """The sorted list of the labels."""
        return sorted(self.held.kept.claims)

    def __len__(self):
        return len(self.held.done)

    def __contains__(self, name):
        return is_name(name) and name in self.held.kept.things

    def __getitem__(self, name):
        if name not in self:
            raise UnknownName(name)
        return copied(self.held.kept.things[name])

    def __iter__(self):
        raise TypeError("a desk is not iterated over")

    def __call__(self, command):
        return self.do(command)

    def claim_of(self, label):
        """The claim with what is kept now; None while its state is gone."""
        return claim_now(self._text_of(label), self.held.kept.things)

    def _text_of(self, label):
        """The words of the claim under a label."""
        if not is_name(label) or label not in self.held.kept.claims:
            raise UnknownLabel(label)
        return self.held.kept.claims[label]

    def do(self, command):
        """The answer to a command."""
        parts = parsed(command)
        if parts is None:
            raise InvalidCommand(command)
        word = command.split(" ")[0]
        told = self._with_things(parts)
        if word in DEEDS:
            return self._do_deed(command, parts, told)
        if word == "undo":
            return self._undo()
        if word == "redo":
            return self._redo()
        return self._answer(word, parts, told)

    def _with_things(self, parts):
        """The parts of a command that are not new, names told as things, once all names and labels are right."""
        kept = self.held.kept
        for kind, part in parts:
            if kind == "new" and part in kept.things:
                raise NameTaken(part)
            if kind == "free" and part in kept.claims:
                raise LabelTaken(part)
        for kind, part in parts:
            if kind in THING_KINDS and not is_kept(kept.things, kind, part):
                raise UnknownName(part)
            if kind == "label":
                self._text_of(part)
        return [kept.things[part] if kind in THING_KINDS else part for kind, part in parts if kind != "new"]

    def _answer(self, word, parts, told):
        kept = self.held.kept
        if word == "names":
            return " ".join(self.names) or "-"
        if word == "states":
            return told_states(kept.states, {})
        if word == "state":
            return kept.states[told[0]]
        if word == "claimed":
            return kept.claims[told[0]]
        return asked_of(word, told)

    def _do_deed(self, line, parts, told):
        held = self.held
        kept = self._after(line, parts, told)
        done = held.done + ((line, held.kept, kept),)
        _need_few(kept.things, "names", MOST_NAMES)
        _need_few(kept.claims, "labels", MOST_LABELS)
        _need_few(done, "deeds", MOST_DEEDS)
        self.held = Held(kept, held.papers, done, ())
        return told_states(kept.states, held.kept.states)

    def _after(self, line, parts, told):
        """What is kept behind a deed."""
        kept = self.held.kept
        words = line.split(" ")
        name = parts[0][1]
        if words[0] == "drop":
            return without_thing(kept, name)
        if words[0] == "forget":
            return without_claim(kept, name)
        if words[0] == "claim":
            text = " ".join(words[2:])
            claim = claim_with(text, kept.things)
            if not is_claim(claim):
                raise InvalidClaim(claim)
            return with_claim(kept, name, text)
        return with_thing(kept, name, made_by(words[0], told))

    def _undo(self):
        held = self.held
        if not held.done:
            raise NothingToUndo()
        line, before, _ = held.done[-1]
        self.held = Held(before, held.papers, held.done[:-1], held.undone + (held.done[-1],))
        return line

    def _redo(self):
        held = self.held
        if not held.undone:
            raise NothingToRedo()
        line, _, after = held.undone[-1]
        self.held = Held(after, held.papers, held.done + (held.undone[-1],), held.undone[:-1])
        return line

    def do_all(self, *commands):
        """The list of the answers to commands; if one fails, none has an effect."""
        held = self.held
        found = []
        for position, command in enumerate(commands):
            try:
                found.append(self.do(command))
            except (BoxError, MissingError, StateError, LimitError) as error:
                self.held = held
                raise CommandFailed(position) from error
        return found

    def attempt(self, *commands):
        """As do_all, and all is as before."""
        held = self.held
        try:
            return self.do_all(*commands)
        finally:
            self.held = held

    def attach(self, label, paper):
        """Keep a paper of the label's claim, or of its contrary, with the label."""
        text = self._text_of(label)
        claim = claim_now(text, self.held.kept.things)
        if claim is None:
            raise InvalidPaper(paper)
        if not is_paper_of(claim, paper):
            claim = contrary(claim)
            if not is_paper_of(claim, paper):
                raise InvalidPaper(paper)
        held = self.held
        papers = {**held.papers, label: (text, claim[0], copied(paper))}
        self.held = Held(held.kept, papers, held.done, held.undone)

    def fits(self, label):
        """Whether the label's paper is still a paper of what it was kept for."""
        text = self._text_of(label)
        if label not in self.held.papers:
            return False
        words, word, paper = self.held.papers[label]
        claim = claim_now(text, self.held.kept.things)
        if words != text or claim is None:
            return False
        return is_paper_of(claim if claim[0] == word else contrary(claim), paper)

    def lines(self):
        """The list of the lines of the deeds that are not taken back."""
        return [line for line, _, _ in self.held.done]

    def copy(self):
        """A desk with the same things that goes on by itself."""
        other = Desk()
        other.held = self.held
        return other

    @classmethod
    def again(cls, lines):
        """A desk that has done these deeds."""
        if not is_list(lines):
            raise InvalidLines(None)
        for position, line in enumerate(lines):
            if not is_deed(line):
                raise InvalidLines(position)
        desk = cls()
        for position, line in enumerate(lines):
            try:
                desk.do(line)
            except (BoxError, MissingError, StateError, LimitError) as error:
                raise CommandFailed(position) from error
        return desk


def _need_few(kept, what, most):
    """Raise TooMany if more than so many would be kept."""
    if len(kept) > most:
        raise TooMany(what, most)


class Trial:
    """A desk that is, behind the block, as it was ahead of it."""

    def __init__(self, desk):
        self.desk = desk
        self.held = desk.held

    def __enter__(self):
        self.held = self.desk.held
        return self.desk

    def __exit__(self, kind, value, trace):
        desk = self.desk
        desk.held = self.held


def tried(desk, action):
    """What the action returns for the desk, which is then as it was."""
    with Trial(desk) as held:
        return action(held)
