"""A desk: things under names, claims under labels, deeds that can be taken back, papers; and trials of it."""

from fromplaces.answers import answer_to
from fromplaces.basics import copied, is_list
from fromplaces.claims import contrary, is_paper_of
from fromplaces.commands import is_deed, is_deed_word, parsed
from fromplaces.deeds import Kept, after_deed, changes, check_names, claim_now, claimed_words
from fromplaces.errors import CommandFailed, InvalidCommand, InvalidLines, InvalidPaper, LimitError, MissingError
from fromplaces.errors import NothingToRedo, NothingToUndo, StateError, TimeError, TooMany, UnknownLabel, UnknownName

MOST_DEEDS = 300


class Course:
    """All of a desk: what is kept, the papers, the deeds, and those that were taken back. It never changes.

    A deed is told by its line and what was kept ahead of it, one that was taken back by its line and what was kept
    behind it. A paper is told by the words of its claim, whether it is one of the claim itself, and the paper.
    """

    def __init__(self, kept, papers, done, undone):
        self.kept = kept
        self.papers = papers
        self.done = done
        self.undone = undone


class Desk:
    """A desk that keeps things under names and notes claims under labels."""

    def __init__(self):
        self._course = Course(Kept({}, {}, {}), {}, [], [])

    @property
    def names(self):
        """The sorted list of the names."""
        return sorted(list(self._course.kept.things))

    @property
    def labels(self):
        """The sorted list of the labels."""
        return sorted(list(self._course.kept.claims))

    def __len__(self):
        return len(self._course.done)

    def __getitem__(self, at):
        things = self._course.kept.things
        if not isinstance(at, str) or at not in things:
            raise UnknownName(at)
        return copied(things[at][1])

    def __contains__(self, x):
        return isinstance(x, str) and x in self._course.kept.things

    def __iter__(self):
        raise TypeError("a Desk is not iterated over")

    def claim_of(self, label):
        """The claim as a tuple, with what is kept now, None while its state is gone."""
        kept = self._course.kept
        return claim_now(kept.things, noted(kept, label))

    def do(self, command):
        """The answer to the command, which is done."""
        wanted = parsed(command)
        if wanted is None:
            raise InvalidCommand(command)
        course = self._course
        check_names(course.kept, wanted)
        if wanted.word == "undo":
            self._course, answer = undone_course(course)
        elif wanted.word == "redo":
            self._course, answer = redone_course(course)
        elif is_deed_word(wanted.word):
            self._course, answer = done_course(course, wanted)
        else:
            answer = answer_to(course.kept, wanted)
        return answer

    def __call__(self, command):
        return self.do(command)

    def do_all(self, *commands):
        """The list of the answers: CommandFailed if one fails, and then none has an effect."""
        before, answers = self._course, []
        for position, command in enumerate(commands):
            try:
                answers.append(self.do(command))
            except (TimeError, MissingError, StateError, LimitError) as error:
                self._course = before
                raise CommandFailed(position) from error
        return answers

    def attempt(self, *commands):
        """The list of the answers; behind it all is as it was."""
        before = self._course
        answers = self.do_all(*commands)
        self._course = before
        return answers

    def attach(self, label, paper):
        """Keeps a paper of the label's claim, or of its contrary: InvalidPaper if it is none as things are now."""
        course = self._course
        claim = noted(course.kept, label)
        told_now = claim_now(course.kept.things, claim)
        if told_now is None:
            raise InvalidPaper(paper)
        is_own = is_paper_of(told_now, paper)
        if not is_own and not is_paper_of(contrary(told_now), paper):
            raise InvalidPaper(paper)
        papers = {**course.papers, label: (claimed_words(claim), is_own, copied(paper))}
        self._course = Course(course.kept, papers, course.done, course.undone)

    def fits(self, label):
        """Whether the paper that is kept with the label is still one of what it was kept for."""
        course = self._course
        claim = noted(course.kept, label)
        told_now = claim_now(course.kept.things, claim)
        if told_now is None or label not in course.papers:
            return False
        told_words, is_own, paper = course.papers[label]
        if told_words != claimed_words(claim):
            return False
        return is_paper_of(told_now if is_own else contrary(told_now), paper)

    def lines(self):
        """The list of the lines of the deeds that are not taken back."""
        return [line for line, _ in self._course.done]

    def copy(self):
        """A desk that goes on by itself, all as it is here."""
        found = Desk()
        found._course = self._course
        return found

    @classmethod
    def again(cls, lines):
        """A desk that has done the deeds of these lines: InvalidLines, CommandFailed."""
        if not is_list(lines):
            raise InvalidLines(None)
        for position, line in enumerate(lines):
            if not is_deed(line):
                raise InvalidLines(position)
        desk = cls()
        desk.do_all(*lines)
        return desk


class Trial:
    """A block of `with`, behind which the desk is as it was ahead of it."""

    def __init__(self, desk):
        self._desk = desk
        self._course = desk._course

    def __enter__(self):
        self._course = self._desk._course
        return self._desk

    def __exit__(self, kind, value, trace):
        desk = self._desk
        desk._course = self._course


def tried(desk, action):
    """What the action returns for the desk, which is then as it was ahead of it."""
    with Trial(desk) as held:
        return action(held)


def noted(kept, label):
    """The Command that noted the label's claim: UnknownLabel unless there is one."""
    if not isinstance(label, str) or label not in kept.claims:
        raise UnknownLabel(label)
    return kept.claims[label]


def done_course(course, command):
    """The tuple of the course behind the deed, and its answer."""
    kept = after_deed(course.kept, command)
    if len(course.done) == MOST_DEEDS:
        raise TooMany("deeds", MOST_DEEDS)
    done = [*course.done, (command.text, course.kept)]
    return Course(kept, course.papers, done, []), changes(course.kept, kept)


def undone_course(course):
    """The tuple of the course with the last deed taken back, and its line: NothingToUndo without one."""
    if not course.done:
        raise NothingToUndo()
    line, kept = course.done[-1]
    undone = [*course.undone, (line, course.kept)]
    return Course(kept, course.papers, course.done[:-1], undone), line


def redone_course(course):
    """The tuple of the course with the last deed that was taken back done again, and its line: NothingToRedo."""
    if not course.undone:
        raise NothingToRedo()
    line, kept = course.undone[-1]
    done = [*course.done, (line, course.kept)]
    return Course(kept, course.papers, done, course.undone[:-1]), line
