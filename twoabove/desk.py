"""The desk: things under names, claims under labels, deeds that can be taken back, and papers of claims."""

from twoabove.answers import answer
from twoabove.checks import is_list
from twoabove.claims import contrary, copied, is_paper_of
from twoabove.commands import is_deed_word, is_desk_deed, is_name, told_command
from twoabove.errors import CommandFailed, InvalidCommand, InvalidLines, InvalidPaper, LimitError, MissingError
from twoabove.errors import NothingToRedo, NothingToUndo, StateError, StoreError, TooMany, UnknownLabel, UnknownName
from twoabove.makers import behind_deed
from twoabove.scenes import Scene, claim_of_words, found_parts, told_changes

MOST_DESK_DEEDS = 300


class Held:
    """All of a desk: the scene, the papers, and the deeds that can be taken back or done again. It never changes.

    Each deed stands with the scene that was ahead of it, each one that was taken back with the scene behind it.
    """

    def __init__(self, scene, papers, past, future):
        self.scene = scene
        self.papers = papers
        self.past = past
        self.future = future


class Desk:
    """Keeps stores, boards, weights and counts under names, and notes claims of them under labels."""

    def __init__(self):
        # Whatever changes the desk puts another one in the place of this; so all of it is soon as it was.
        self._held = Held(Scene({}, {}, {}), {}, (), ())

    @property
    def names(self):
        """The sorted list of the names under which something is kept."""
        return sorted(self._held.scene.things)

    @property
    def labels(self):
        """The sorted list of the labels under which a claim is noted."""
        return sorted(self._held.scene.claims)

    def __len__(self):
        return len(self._held.past)

    def __getitem__(self, name):
        if name not in self:
            raise UnknownName(name)
        return copied(self._held.scene.things[name][1])

    def __contains__(self, name):
        return is_name(name) and name in self._held.scene.things

    def __iter__(self):
        raise TypeError("a desk is not iterated over")

    def __call__(self, command):
        return self.do(command)

    def claim_of(self, label):
        """The claim of the label with what is kept now; None while its state is gone."""
        scene = self._held.scene
        if not is_name(label) or label not in scene.claims:
            raise UnknownLabel(label)
        return claim_of_words(scene.things, scene.claims[label])

    def do(self, command):
        """The answer to the command."""
        told = told_command(command)
        if told is None:
            raise InvalidCommand(command)
        word, sorts, parts = told
        if word == "undo":
            return self._take_back()
        if word == "redo":
            return self._do_again()
        found = found_parts(self._held.scene, sorts, parts)
        if is_deed_word(word):
            return self._do_deed(command, behind_deed(self._held.scene, word, parts, found))
        return answer(self._held.scene, word, found)

    def do_all(self, *commands):
        """The list of the answers; if one command fails, none has an effect."""
        ahead = self._held
        answers = []
        for position, command in enumerate(commands):
            try:
                answers.append(self.do(command))
            except (StoreError, MissingError, StateError, LimitError) as why:
                self._held = ahead
                raise CommandFailed(position) from why
        return answers

    def attempt(self, *commands):
        """The list of the answers; none has an effect."""
        ahead = self._held
        answers = self.do_all(*commands)
        self._held = ahead
        return answers

    def attach(self, label, paper):
        """Keep a paper of the label's claim, or of its contrary, with the label."""
        claim = self.claim_of(label)
        word = _proven_word(claim, paper)
        if word is None:
            raise InvalidPaper(paper)
        held = self._held
        papers = dict(held.papers)
        papers[label] = (held.scene.claims[label], word, copied(paper))
        self._held = Held(held.scene, papers, held.past, held.future)

    def fits(self, label):
        """Whether the paper kept with the label is still one of what it was kept for, in the same words."""
        claim = self.claim_of(label)
        held = self._held
        if claim is None or label not in held.papers:
            return False
        words, word, paper = held.papers[label]
        return words == held.scene.claims[label] and is_paper_of((word,) + claim[1:], paper)

    def lines(self):
        """The list of the lines of the deeds that are not taken back."""
        return [line for line, _ in self._held.past]

    def copy(self):
        """A desk with all of this one that goes on by itself."""
        other = Desk()
        other._held = self._held
        return other

    @classmethod
    def again(cls, lines):
        """A desk that has done these deeds."""
        if not is_list(lines):
            raise InvalidLines(None)
        for position, line in enumerate(lines):
            if not is_desk_deed(line):
                raise InvalidLines(position)
        desk = cls()
        desk.do_all(*lines)
        return desk

    def _do_deed(self, line, scene):
        held = self._held
        if len(held.past) == MOST_DESK_DEEDS:
            raise TooMany("deeds", MOST_DESK_DEEDS)
        self._held = Held(scene, held.papers, held.past + ((line, held.scene),), ())
        return told_changes(held.scene, scene)

    def _take_back(self):
        held = self._held
        if len(held.past) == 0:
            raise NothingToUndo()
        line, scene = held.past[-1]
        self._held = Held(scene, held.papers, held.past[:-1], held.future + ((line, held.scene),))
        return line

    def _do_again(self):
        held = self._held
        if len(held.future) == 0:
            raise NothingToRedo()
        line, scene = held.future[-1]
        self._held = Held(scene, held.papers, held.past + ((line, held.scene),), held.future[:-1])
        return line


class Trial:
    """A block behind which all of the desk is as it was ahead."""

    def __init__(self, desk):
        self._desk = desk
        self._ahead = None

    def __enter__(self):
        self._ahead = self._desk._held
        return self._desk

    def __exit__(self, kind, value, trace):
        desk = self._desk
        desk._held = self._ahead


def tried(desk, action):
    """What the action returns for the desk, with all of the desk as it was ahead."""
    with Trial(desk) as held:
        return action(held)


def _proven_word(claim, paper):
    # The word of the claim, or of its contrary, whichever the paper is one of; None if of neither.
    if claim is None:
        return None
    for one in (claim, contrary(claim)):
        if is_paper_of(one, paper):
            return one[0]
    return None
