"""Benches: named nets and a shelf, with a history."""

from endlessnets.answers import NO_ANSWER, answer_to
from endlessnets.deeds import check_deeds, held_behind, net_of
from endlessnets.errors import Falls, NothingLeft, TooMany, UnknownName, Unsteady
from endlessnets.holdings import Holding
from endlessnets.papers import far_paper_on, is_right, paper_on

DONE = "done"


def bench_with(holding):
    """A bench that holds something, without history, journal and log."""
    bench = Bench()
    bench._holding = holding
    return bench


class Bench:
    """Named nets and a shelf, the steps that led to them, and the lines that were answered."""

    def __init__(self):
        self._holding = Holding()
        self._done = []
        self._undone = []
        self._log = []
        self._busy = False

    def do(self, *deeds):
        """Does all of some deeds, in order, or none of them."""
        after = self._behind(deeds)
        if deeds:
            self._done.append((self._holding, deeds))
            self._undone = []
            self._holding = after

    def undo(self):
        """Takes the last step back."""
        if not self._done:
            raise NothingLeft()
        ahead, deeds = self._done.pop()
        self._undone.append((self._holding, deeds))
        self._holding = ahead

    def redo(self):
        """Does again the last step that was taken back."""
        if not self._undone:
            raise NothingLeft()
        after, deeds = self._undone.pop()
        self._done.append((self._holding, deeds))
        self._holding = after

    def history(self):
        """The numbers of the steps that can be undone and redone."""
        return (len(self._done), len(self._undone))

    def names(self):
        """The ascending list of the names of the nets."""
        return self._holding.net_names()

    def net(self, name):
        """A twin of a net object."""
        return net_of(self._holding, name)

    def shelf(self):
        """The pairs of a label and a book on the shelf, in order."""
        return self._holding.shelf_pairs()

    def journal(self):
        """The deeds that led to the present bench, in order, without those that were undone."""
        return [deed for _, deeds in self._done for deed in deeds]

    @property
    def busy(self):
        """Whether deeds are being done."""
        return self._busy

    def tried(self, *deeds):
        """The text that the bench would have behind some deeds."""
        return self._behind(deeds).written()

    def paper(self, word, *names):
        """A right paper on the nets with some names."""
        return paper_on(self._holding.books, word, names)

    def far_paper(self, name, vector):
        """A right paper on a vector of a net."""
        return far_paper_on(self._holding.books, name, vector)

    def holds(self, paper):
        """Whether any value is a right paper now."""
        return is_right(self._holding.books, paper)

    def text(self):
        """The text of the bench."""
        return self._holding.written()

    def say(self, line):
        """The answer to a line."""
        answer = self._answer(line)
        self._log.append((line, answer))
        return answer

    def __call__(self, line):
        return self.say(line)

    def log(self):
        """The pairs of a line and its answer, for all lines so far."""
        return list(self._log)

    def twin(self):
        """An independent bench in the same state."""
        bench = bench_with(self._holding)
        bench._done = list(self._done)
        bench._undone = list(self._undone)
        bench._log = list(self._log)
        return bench

    def __contains__(self, name):
        return isinstance(name, str) and name in self._holding.books

    def __eq__(self, other):
        return isinstance(other, Bench) and self._holding == other._holding

    def __len__(self):
        return len(self._holding.books)

    def __bool__(self):
        return True

    def __repr__(self):
        return f"Bench({len(self._holding.books)} nets, {len(self._holding.shelved)} on the shelf)"

    def _behind(self, deeds):
        check_deeds(deeds)
        self._busy = True
        try:
            return held_behind(self._holding, deeds)
        finally:
            self._busy = False

    def _answer(self, line):
        words = line.split(" ")
        if "" in words or "\n" in line:
            return NO_ANSWER
        try:
            if words == ["undo"]:
                self.undo()
                return DONE
            if words == ["redo"]:
                self.redo()
                return DONE
            return answer_to(self._holding, words)
        except (UnknownName, Falls, TooMany, Unsteady, NothingLeft) as error:
            return f"error {error.code}"
