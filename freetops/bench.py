"""Benches: holdings with names, which change by deeds, with history, drafts and kept papers."""

from freetops.checks import check_prime
from freetops.deeds import check_deeds, holding_named, holding_of_kind, holdings_behind, kind_name
from freetops.errors import FreeError, Full, InDraft, InvalidQuestion, Missing, NoDraft, NothingLeft, UnknownKept
from freetops.holdingtexts import bench_text
from freetops.numbers import is_number
from freetops.papers import check_asked, is_paper, paper_of
from freetops.questions import ASKED_KINDS, is_question
from freetops.talking import answer_about

MOST_STEPS = 60


class Bench:
    """A bench without holdings."""

    def __init__(self, prime):
        check_prime(prime)
        self.prime = prime
        # the holdings at the beginning and behind each step; no holding in them is ever changed, and
        # the steps that were taken back stand behind the others until a new step
        self._states = [{}]
        self._steps = []
        self._done = 0
        # while a draft is open: its holdings, and its deeds
        self._drafted = None
        self._draft = []
        self._kept = []
        self._log = []

    def _now(self):
        """The present holdings."""
        if self._drafted is not None:
            return self._drafted
        return self._states[self._done]

    def do(self, *deeds):
        """Does deeds, all of them or none; outside of drafts they are one step."""
        holdings = self._behind(deeds)
        given = [_with_tuples(deed) for deed in deeds]
        if self._drafted is not None:
            self._drafted = holdings
            self._draft = self._draft + given
        elif given:
            self._make_step(given, holdings)

    def tried(self, *deeds):
        """The text that the bench would have behind these deeds."""
        return bench_text(self.prime, self._behind(deeds))

    def _behind(self, deeds):
        """The holdings that there would be behind these deeds."""
        check_deeds(deeds)
        if self._drafted is None and deeds:
            self._check_room()
        holdings = self._now()
        for deed in deeds:
            holdings = holdings_behind(self.prime, holdings, deed)
        return holdings

    def _check_room(self):
        if self._done >= MOST_STEPS:
            raise Full(MOST_STEPS)

    def _make_step(self, deeds, holdings):
        self._steps = self._steps[:self._done] + [deeds]
        self._states = self._states[:self._done + 1] + [holdings]
        self._done += 1

    def undo(self):
        """Takes the last step back."""
        self._check_no_draft()
        if self._done == 0:
            raise NothingLeft()
        self._done -= 1

    def redo(self):
        """Does the step again that was taken back last."""
        self._check_no_draft()
        if self._done == len(self._steps):
            raise NothingLeft()
        self._done += 1

    def _check_no_draft(self):
        if self._drafted is not None:
            raise InDraft()

    def history(self):
        """The pair of the numbers of steps that can be undone and redone."""
        return self._done, len(self._steps) - self._done

    def journal(self):
        """The steps that can be undone, each a list of its deeds."""
        return [list(step) for step in self._steps[:self._done]]

    def begin_draft(self):
        """Opens a draft."""
        self._check_no_draft()
        self._check_room()
        self._drafted = self._now()
        self._draft = []

    def keep_draft(self):
        """Closes the draft; all its deeds are one step."""
        deeds, holdings = self._closed_draft()
        if deeds:
            self._make_step(deeds, holdings)

    def give_up(self):
        """Closes the draft, and the holdings are as they were when it was begun."""
        self._closed_draft()

    def _closed_draft(self):
        """Closes the draft; returns its deeds and its holdings."""
        if self._drafted is None:
            raise NoDraft()
        deeds, holdings = self._draft, self._drafted
        self._drafted = None
        self._draft = []
        return deeds, holdings

    @property
    def in_draft(self):
        """Whether a draft is open."""
        return self._drafted is not None

    def names(self):
        """The ascending list of the names of the holdings."""
        return sorted(self._now())

    def kind_of(self, name):
        """The kind of the holding with a name."""
        return kind_name(holding_named(self._now(), name))

    def holding(self, name):
        """The span or curve with a name, or an independent room in the state of the one with it."""
        found = holding_named(self._now(), name)
        if kind_name(found) in ("letters", "points"):
            return found.twin()
        return found

    def _asked(self, question):
        """The holding that a question is asked about, which may be any value."""
        if not is_question(self.prime, question):
            raise InvalidQuestion()
        holding = holding_of_kind(self._now(), question[1], ASKED_KINDS[question[0]])
        check_asked(holding, question)
        return holding

    def paper(self, question):
        """A right paper of a question."""
        return paper_of(self._asked(question), question)

    def is_right(self, question, value):
        """Whether any value is a right paper of a question."""
        return is_paper(self._asked(question), question, value)

    def keep(self, question):
        """Asks for a paper and keeps both; returns its number."""
        self._kept.append((question, self.paper(question)))
        return len(self._kept) - 1

    def kept(self, number):
        """The pair of a kept question and its paper."""
        if not is_number(number, 0, len(self._kept) - 1):
            raise UnknownKept(number)
        question, paper = self._kept[number]
        return question, _with_new_lists(paper)

    def is_good(self, number):
        """Whether a kept paper is right for the present holding with this name."""
        question, paper = self.kept(number)
        try:
            return self.is_right(question, paper)
        except (FreeError, Missing):
            return False

    def say(self, line):
        """The answer to a line."""
        answer = self._answer_to(line)
        self._log.append((line, answer))
        return answer

    def __call__(self, line):
        """The same as `say`."""
        return self.say(line)

    def _answer_to(self, line):
        try:
            if line == "undo":
                self.undo()
                return "done"
            if line == "redo":
                self.redo()
                return "done"
            return answer_about(self._now(), line)
        except (FreeError, Missing, NothingLeft) as fault:
            return f"error {fault.code}"

    def log(self):
        """The list of the pairs of a line and its answer."""
        return list(self._log)

    def text(self):
        """The text of the bench."""
        return bench_text(self.prime, self._now())

    def twin(self):
        """An independent bench in the same state, with its history, draft, kept papers and log."""
        bench = Bench(self.prime)
        # lists that are replaced, and holdings that never change, need no copies
        bench._states = self._states
        bench._steps = self._steps
        bench._done = self._done
        bench._drafted = self._drafted
        bench._draft = self._draft
        bench._kept = list(self._kept)
        bench._log = list(self._log)
        return bench

    def __contains__(self, name):
        return isinstance(name, str) and name in self._now()

    def __eq__(self, other):
        return isinstance(other, Bench) and self.prime == other.prime and self._now() == other._now()

    def __len__(self):
        return len(self._now())

    def __bool__(self):
        return True

    def __repr__(self):
        return f"Bench(p {self.prime}, {len(self)} holdings)"


def bench_of(prime, holdings):
    """A bench with these holdings, without history."""
    bench = Bench(prime)
    bench._states = [holdings]
    return bench


def _with_tuples(value):
    """A value with tuples in the place of lists, at any depth."""
    if isinstance(value, (list, tuple)):
        return tuple([_with_tuples(item) for item in value])
    return value


def _with_new_lists(value):
    """A value with new lists in the place of its lists, at any depth."""
    if isinstance(value, list):
        return [_with_new_lists(item) for item in value]
    if isinstance(value, tuple):
        return tuple([_with_new_lists(item) for item in value])
    return value
