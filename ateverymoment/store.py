"""The store: facts that are told, withdrawn and corrected, and questions that are kept up."""

from ateverymoment.answering import told_answer
from ateverymoment.answers import first_row
from ateverymoment.deeds import after_deeds, changes_between, told_facts
from ateverymoment.errors import Forbidden, NoCycle, NoGuard, NoKept
from ateverymoment.papers import paper_of
from ateverymoment.questions import check_question
from ateverymoment.tables import is_cycle
from ateverymoment.trees import renewed_tree, tree_of


class Store:
    """Facts, kept questions, guards and papers.

    `watched` and `barred` are dicts of the kept questions and of the guards: the values are pairs of a question
    and its tree. The `last` numbers are those given last. What a call changes is set at its very end, when no
    error can be raised any more.
    """

    def __init__(self, cycle):
        if not is_cycle(cycle):
            raise NoCycle("the cycle is not from 1 to 60")
        self.cycle = cycle
        self.told = {}
        self.watched = {}
        self.barred = {}
        self.last_told = 0
        self.last_watched = 0
        self.last_barred = 0
        self.written = ()

    @property
    def cycle_length(self):
        """The cycle."""
        return self.cycle

    def do(self, deeds):
        """Do a list of deeds and return the tuple of the numbers of the facts that it told."""
        told, numbers, changes, barred = self.tried(deeds)
        watched = renewed_trees(self.watched, told, changes)
        self.written = tuple([
            paper_of(number, question, self.watched[number][1], tree, changes)
            for number, (question, tree) in watched.items()
        ])
        self.told = told
        self.watched = watched
        self.barred = barred
        self.last_told += len(numbers)
        return numbers

    def tried(self, deeds):
        """Return what a list of deeds would bring: the facts, the numbers that it gives, the changes, the guards."""
        told, numbers = after_deeds(self.cycle, self.told, self.last_told, deeds)
        changes = changes_between(self.cycle, self.told, told)
        barred = renewed_trees(self.barred, told, changes)
        for number, (_, tree) in barred.items():
            check_guard(number, tree)
        return told, numbers, changes, barred

    def tell(self, name, row, when):
        """Tell a fact and return its number."""
        return self.do([("tell", name, row, when)])[0]

    def withdraw(self, number):
        """Withdraw the fact with this number."""
        self.do([("withdraw", number)])

    def correct(self, number, *, row, when):
        """Give the fact with this number another row and another "when"."""
        self.do([("correct", number, row, when)])

    def facts(self):
        """Return the tuple of the facts (number, name, row, when) in ascending order of their numbers."""
        return tuple([(number, name, row, when) for number, (name, row, when, _) in self.told.items()])

    def ask(self, question):
        """Return the answer to the question for the facts of the store."""
        check_question(question)
        return told_answer(self.cycle, told_facts(self.told), question)

    def keep(self, question):
        """Keep a question and return its number."""
        check_question(question)
        number = self.last_watched + 1
        self.watched[number] = (question, tree_of(self.cycle, told_facts(self.told), question))
        self.last_watched = number
        return number

    def kept(self, number):
        """Return the answer to the kept question with this number."""
        if number not in self.watched:
            raise NoKept(number)
        return self.watched[number][1][0]

    def drop(self, number):
        """Keep the question with this number no longer."""
        if number not in self.watched:
            raise NoKept(number)
        del self.watched[number]

    def papers(self):
        """Return the tuple of the papers of the last list of deeds that was done."""
        return self.written

    def forbid(self, question):
        """Make the question a guard and return its number."""
        check_question(question)
        number = self.last_barred + 1
        tree = tree_of(self.cycle, told_facts(self.told), question)
        check_guard(number, tree)
        self.barred[number] = (question, tree)
        self.last_barred = number
        return number

    def allow(self, number):
        """Remove the guard with this number."""
        if number not in self.barred:
            raise NoGuard(number)
        del self.barred[number]

    def guards(self):
        """Return the tuple of the pairs (number, question) of the guards in ascending order of their numbers."""
        return tuple([(number, question) for number, (question, _) in self.barred.items()])

    def what_if(self, deeds, question):
        """Return the answer that the question would have after the list of deeds, which is not done."""
        check_question(question)
        return told_answer(self.cycle, told_facts(self.tried(deeds)[0]), question)


def renewed_trees(questions, told, changes):
    """Return the dict of the same questions with their trees for the facts told, which the changes led to."""
    facts = told_facts(told)
    return {
        number: (question, renewed_tree(tree, facts, question, changes))
        for number, (question, tree) in questions.items()
    }


def check_guard(number, tree):
    """Raise Forbidden if the guard with this number and this tree has a row at some moment."""
    first = first_row(tree[0])
    if first is not None:
        raise Forbidden(number, first[0], first[1])
