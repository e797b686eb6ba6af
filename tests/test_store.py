import unittest
from random import Random

from ateverymoment.answering import answer_to
from ateverymoment.answers import make_answer, rows_at
from ateverymoment.errors import Forbidden, NoCycle, NoFact, NoGuard, NoKept, NoQuestion, NoRow, NoWhen, StoreError
from ateverymoment.store import Store
from ateverymoment.tables import always, never, span_table
from tests.asking import (
    KINDS, NONE, X, XY, Y, Asked, fact, fits, some_of_kind, some_question, some_subset, some_told, some_when,
)
from tests.given import plain_answer_to
from tests.keeping import plain_deeds, plain_first, plain_paper
from tests.plain import from_moments, plain_holds

BIG = 10 ** 30
XYZ = ("x", "y", "z")
CLOSED = fact("closed")
WRONG = ("only", ("y",), X)
NINE = tuple(range(9))
EVER = ("from", 0)


def state(store):
    """All that can be seen of a store."""
    found = [store.cycle_length, store.facts(), store.guards(), store.papers()]
    for number in range(1, 12):
        try:
            found.append(store.kept(number))
        except NoKept:
            found.append(None)
    return found


class Stores(unittest.TestCase):
    def check_raises(self, store, kind, call, **attributes):
        """Check that the call raises the error with these attributes, and that the store stays as it was."""
        before = state(store)
        with self.assertRaises(kind) as caught:
            call()
        self.assertIsInstance(caught.exception, StoreError)
        for name, value in attributes.items():
            self.assertEqual(getattr(caught.exception, name), value)
        self.assertEqual(state(store), before)


class Making(Stores):
    def test_cycles(self):
        for cycle in (1, 2, 7, 59, 60):
            store = Store(cycle)
            self.assertEqual(state(store)[:4], [cycle, (), (), ()])
            self.assertEqual(store.ask(NONE), (cycle, (), ()))
        for cycle in (0, -1, -7, 61, BIG, -BIG):
            with self.assertRaises(NoCycle):
                Store(cycle)

    def test_two_stores_side_by_side(self):
        one, other = Store(7), Store(7)
        one.tell("f", (1,), EVER)
        self.assertEqual(one.keep(X), 1)
        self.assertEqual(state(other)[:4], [7, (), (), ()])
        self.assertEqual(other.keep(Y), 1)
        self.assertEqual(other.forbid(NONE), 1)
        self.assertEqual(other.tell("g", (2,), EVER), 1)
        self.assertEqual((one.kept(1), other.kept(1)), (make_answer(7, ("x",), [((1,), always(7))]),
                                                        make_answer(7, ("y",), [((2,), always(7))])))
        self.assertEqual((one.guards(), len(other.guards())), ((), 1))


class Deeds(Stores):
    def test_tell_withdraw_and_correct(self):
        store = Store(7)
        self.assertEqual(store.tell("f", (1,), ("span", 2, 4)), 1)
        self.assertEqual(store.tell("f", ("a", 2), EVER), 2)
        self.assertEqual(store.tell("open", (), EVER), 3)
        self.assertIsNone(store.correct(1, row=(5,), when=("from", 3)))
        self.assertEqual(store.facts(), ((1, "f", (5,), ("from", 3)), (2, "f", ("a", 2), EVER), (3, "open", (), EVER)))
        self.assertIsNone(store.withdraw(2))
        self.assertEqual(store.facts(), ((1, "f", (5,), ("from", 3)), (3, "open", (), EVER)))
        self.assertEqual(store.tell("g", (), EVER), 4)
        self.assertEqual([fact_[0] for fact_ in store.facts()], [1, 3, 4])
        self.assertEqual(store.ask(X), make_answer(7, ("x",), [((5,), span_table(7, 3, None))]))

    def test_lists_of_deeds(self):
        store = Store(7)
        self.assertEqual(store.do([]), ())
        self.assertEqual(store.do([("tell", "f", (1,), EVER), ("tell", "f", (2,), EVER)]), (1, 2))
        self.assertEqual(store.do([("withdraw", 1), ("correct", 2, ("a",), ("span", 0, 3))]), ())
        self.assertEqual(store.do([("tell", "f", (3,), EVER), ("withdraw", 3), ("tell", "g", (4,), EVER),
                                   ("correct", 4, (), ("from", 8))]), (3, 4))
        self.assertEqual(store.facts(), ((2, "f", ("a",), ("span", 0, 3)), (4, "g", (), ("from", 8))))
        self.assertIs(type(store.do([("tell", "f", (3,), EVER)])), tuple)

    def test_numbers_are_not_used_again(self):
        store = Store(7)
        store.tell("f", (1,), EVER)
        store.withdraw(1)
        self.assertEqual(store.tell("f", (1,), EVER), 2)
        self.assertEqual(store.do([("tell", "f", (1,), EVER), ("withdraw", 3)]), (3,))
        self.assertEqual(store.tell("f", (1,), EVER), 4)

    def test_numbers_are_given_again_after_an_error(self):
        store = Store(7)
        store.tell("f", (1,), EVER)
        self.check_raises(store, NoFact, lambda: store.do([("tell", "f", (2,), EVER), ("withdraw", 9)]), number=9)
        self.assertEqual(store.tell("f", (3,), EVER), 2)
        guard = store.forbid(NONE)
        self.check_raises(store, Forbidden, lambda: store.tell("open", (), EVER), guard=guard, moment=0, row=())
        self.assertEqual(store.do([("tell", "f", (3,), EVER), ("tell", "f", (3,), EVER)]), (3, 4))

    def test_no_fact(self):
        store = Store(7)
        store.do([("tell", "f", (k,), EVER) for k in range(3)])
        store.withdraw(2)
        for number in (0, -1, 2, 4, 5, BIG, -BIG):
            self.check_raises(store, NoFact, lambda: store.withdraw(number), number=number)
            self.check_raises(store, NoFact, lambda: store.correct(number, row=(), when=EVER), number=number)
            self.check_raises(store, NoFact, lambda: store.correct(number, row=NINE, when=("span", 3, 3)), number=number)
        self.check_raises(store, NoFact, lambda: store.do([("withdraw", 1), ("correct", 1, (), EVER)]), number=1)
        self.check_raises(store, NoFact, lambda: store.do([("withdraw", 4), ("tell", "f", (), EVER)]), number=4)
        self.assertEqual(store.do([("tell", "f", (), EVER), ("withdraw", 4)]), (4,))

    def test_no_row(self):
        store = Store(7)
        store.tell("f", (1,), EVER)
        for name in ("", "F", "f ", "a1", "a_b", "fact.", "-"):
            self.check_raises(store, NoRow, lambda: store.tell(name, (), EVER))
            self.check_raises(store, NoRow, lambda: store.tell(name, NINE, ("from", -1)))
        for row in (NINE, ("",), (1, "A"), ("a", "b c"), ("a", 1, "1"), NINE + ("a",), ("a",) * 8 + (1,), (" ",)):
            self.check_raises(store, NoRow, lambda: store.tell("f", row, EVER))
            self.check_raises(store, NoRow, lambda: store.tell("f", row, ("span", 3, 3)))
            self.check_raises(store, NoRow, lambda: store.correct(1, row=row, when=("span", 3, 3)))
            self.check_raises(store, NoRow, lambda: store.do([("correct", 1, row, EVER)]))
        for row in (NINE[:8], (), ("a",) * 8, (-BIG, "abc")):
            store.tell("count", row, EVER)
            store.correct(1, row=row, when=EVER)

    def test_no_when(self):
        store = Store(6)
        store.tell("f", (1,), EVER)
        deep = EVER
        for _ in range(11):
            deep = ("also", deep, EVER)
        for when in (("span", 3, 3), ("span", -1, 3), ("from", -1), ("round", 0, 1, 4, None), ("round", 0, 3, 2, 1),
                     ("round", 0, 1, 6, 0), ("round", 0, 0, 6, 1), ("but", EVER, ("span", 5, 4)), ("also", deep, deep)):
            self.check_raises(store, NoWhen, lambda: store.tell("f", (2,), when))
            self.check_raises(store, NoWhen, lambda: store.correct(1, row=(2,), when=when))
        for when in (deep, ("round", 0, 1, 3, None), ("but", EVER, EVER), ("span", BIG, BIG + 1)):
            store.correct(1, row=(2,), when=when)
            store.tell("f", (2,), when)

    def test_the_first_deed_with_an_error_raises_it(self):
        store = Store(7)
        store.tell("f", (1,), EVER)
        bad = [("withdraw", 7), ("tell", "F", (), EVER), ("correct", 1, (), ("from", -1))]
        errors = [NoFact, NoRow, NoWhen]
        for first in range(3):
            for second in range(3):
                deeds = [("tell", "g", (), EVER), bad[first], bad[second], ("withdraw", 1)]
                self.check_raises(store, errors[first], lambda: store.do(deeds))
        self.assertEqual(store.facts(), ((1, "f", (1,), EVER),))

    def test_facts_of_the_same_name_and_row(self):
        store = Store(7)
        kept = store.keep(X)
        store.do([("tell", "f", (1,), ("span", 0, 5)), ("tell", "f", (1,), ("span", 3, 9)), ("tell", "f", (1,), EVER)])
        self.assertEqual(store.kept(kept), make_answer(7, ("x",), [((1,), always(7))]))
        store.withdraw(3)
        self.assertEqual(store.kept(kept), make_answer(7, ("x",), [((1,), span_table(7, 0, 9))]))
        store.withdraw(1)
        self.assertEqual(store.kept(kept), make_answer(7, ("x",), [((1,), span_table(7, 3, 9))]))
        store.withdraw(2)
        self.assertEqual(store.kept(kept), (7, ("x",), ()))

    def test_lists_that_are_changed_later(self):
        store = Store(7)
        deeds = [("tell", "f", (1,), EVER), ("tell", "f", (2,), EVER)]
        store.do(deeds)
        self.assertEqual(len(deeds), 2)
        deeds[0] = ("tell", "f", (9,), EVER)
        deeds.clear()
        self.assertEqual(store.facts(), ((1, "f", (1,), EVER), (2, "f", (2,), EVER)))
        what = [("withdraw", 1)]
        found = store.what_if(what, X)
        what.clear()
        self.assertEqual(rows_at(found, 0), ((2,),))


class Questions(Stores):
    def test_ask(self):
        chance = Random(371)
        for _ in range(100):
            cycle = chance.choice((1, 2, 3, 7))
            facts = some_told(chance, cycle)
            store = Store(cycle)
            store.do([("tell",) + told for told in facts])
            question = some_question(chance, some_subset(chance, XYZ), 4)
            before = state(store)
            self.assertEqual(store.ask(question), answer_to(cycle, facts, question))
            self.assertEqual(state(store), before)

    def test_numbers(self):
        store = Store(7)
        self.assertEqual([store.keep(X), store.keep(Y), store.keep(X)], [1, 2, 3])
        self.assertIsNone(store.drop(2))
        self.assertEqual(store.keep(NONE), 4)
        store.drop(4)
        self.check_raises(store, NoQuestion, lambda: store.keep(WRONG), path=())
        self.assertEqual(store.keep(NONE), 5)
        self.assertEqual([store.tell("f", (), EVER), store.forbid(XY)], [1, 1])

    def test_no_kept(self):
        store = Store(7)
        for _ in range(3):
            store.keep(X)
        store.drop(2)
        for number in (0, -1, 2, 4, BIG, -BIG):
            self.check_raises(store, NoKept, lambda: store.kept(number), number=number)
            self.check_raises(store, NoKept, lambda: store.drop(number), number=number)

    def test_no_question(self):
        store = Store(7)
        store.tell("f", (1,), EVER)
        deep = X
        for _ in range(12):
            deep = ("once", 1, deep)
        for question, path in ((WRONG, ()), (("both", X, ("shift", 2, WRONG)), (1, 0)), (deep, ()),
                               (fact("f", "'A"), ()), (("soon", -1, X), ())):
            self.check_raises(store, NoQuestion, lambda: store.ask(question), path=path)
            self.check_raises(store, NoQuestion, lambda: store.keep(question), path=path)
            self.check_raises(store, NoQuestion, lambda: store.forbid(question), path=path)
            self.check_raises(store, NoQuestion, lambda: store.what_if([("withdraw", 9)], question), path=path)

    def test_a_question_that_is_kept_late(self):
        store = Store(7)
        store.tell("f", (1,), ("span", 2, 5))
        self.assertEqual(store.kept(store.keep(X)), make_answer(7, ("x",), [((1,), span_table(7, 2, 5))]))


class Guards(Stores):
    def test_forbid_and_allow(self):
        store = Store(7)
        self.assertEqual([store.forbid(NONE), store.forbid(X), store.forbid(NONE)], [1, 2, 3])
        self.assertEqual(store.guards(), ((1, NONE), (2, X), (3, NONE)))
        self.assertIsNone(store.allow(1))
        self.assertEqual(store.guards(), ((2, X), (3, NONE)))
        self.assertEqual(store.forbid(Y), 4)
        for number in (0, -1, 1, 5, BIG):
            self.check_raises(store, NoGuard, lambda: store.allow(number), number=number)
        self.check_raises(store, Forbidden, lambda: store.tell("open", (), ("from", 5)), guard=3, moment=5, row=())
        store.allow(3)
        self.assertEqual(store.tell("open", (), ("from", 5)), 1)

    def test_a_new_guard_that_has_a_row(self):
        store = Store(7)
        store.do([("tell", "f", (2,), ("span", 5, 9)), ("tell", "f", (1,), ("from", 5)), ("tell", "f", (0,), ("from", 6))])
        self.check_raises(store, Forbidden, lambda: store.forbid(X), guard=1, moment=5, row=(1,))
        self.assertEqual(store.guards(), ())
        self.assertEqual(store.forbid(Y), 1)
        self.check_raises(store, Forbidden, lambda: store.forbid(("shift", BIG, X)), guard=2, moment=0, row=(0,))
        self.check_raises(store, NoQuestion, lambda: store.forbid(("both", X, WRONG)), path=(1,))
        self.assertEqual(store.forbid(("shift", BIG, Y)), 2)

    def test_the_least_guard_and_its_first_row(self):
        store = Store(7)
        store.forbid(("shift", 3, fact("k", "x")))
        store.forbid(("both", X, fact("g", "x")))
        store.forbid(X)
        deeds = [("tell", "f", ("a",), ("from", 1)), ("tell", "g", ("a",), ("from", 4)), ("tell", "f", (7,), ("from", 4)),
                 ("tell", "g", (7,), ("from", 3))]
        self.check_raises(store, Forbidden, lambda: store.do(deeds), guard=2, moment=4, row=(7,))
        self.check_raises(store, Forbidden, lambda: store.do(deeds[:1]), guard=3, moment=1, row=("a",))
        store.allow(2)
        self.check_raises(store, Forbidden, lambda: store.do(deeds), guard=3, moment=1, row=("a",))
        store.allow(3)
        self.assertEqual(store.do(deeds), (1, 2, 3, 4))

    def test_guards_are_asked_once_after_the_last_deed(self):
        store = Store(7)
        store.forbid(("both", NONE, CLOSED))
        store.tell("open", (), EVER)
        self.assertEqual(store.do([("tell", "closed", (), EVER), ("withdraw", 1)]), (2,))
        self.assertEqual(store.do([("tell", "open", (), EVER), ("correct", 3, (1,), EVER)]), (3,))
        self.check_raises(store, Forbidden, lambda: store.correct(3, row=(), when=("span", 8, 9)),
                          guard=1, moment=8, row=())

    def test_the_errors_of_deeds_come_first(self):
        store = Store(7)
        store.forbid(NONE)
        told = ("tell", "open", (), EVER)
        for bad, kind in ((("withdraw", 9), NoFact), (("tell", "F", (), EVER), NoRow),
                          (("tell", "f", (), ("from", -1)), NoWhen)):
            for deeds in ([told, bad], [bad, told], [told, told, bad]):
                self.check_raises(store, kind, lambda: store.do(deeds))
                self.check_raises(store, kind, lambda: store.what_if(deeds, X))

    def test_rows_at_far_moments(self):
        store = Store(7)
        store.forbid(("both", NONE, CLOSED))
        store.tell("open", (), ("span", BIG, BIG + 9))
        found = [BIG + k for k in range(7) if (BIG + k) % 7 == 3][0]
        self.check_raises(store, Forbidden, lambda: store.tell("closed", (), ("round", 3, 1, 7, None)),
                          guard=1, moment=found, row=())


class WhatIf(Stores):
    def test_the_store_stays_as_it_was(self):
        store = Store(7)
        store.tell("f", (1,), EVER)
        store.keep(X)
        store.tell("f", (2,), ("span", 3, 4))
        before = state(store)
        found = store.what_if([("withdraw", 1), ("tell", "f", (3,), ("span", 0, 2))], X)
        self.assertEqual(found, make_answer(7, ("x",), [((2,), span_table(7, 3, 4)), ((3,), span_table(7, 0, 2))]))
        self.assertEqual(state(store), before)
        self.assertEqual(store.what_if([], X), store.ask(X))
        self.assertEqual(store.tell("f", (3,), EVER), 3)

    def test_errors(self):
        store = Store(7)
        store.forbid(NONE)
        store.tell("f", (1,), EVER)
        self.check_raises(store, NoFact, lambda: store.what_if([("withdraw", 2)], X), number=2)
        self.check_raises(store, NoRow, lambda: store.what_if([("tell", "f", ("",), ("from", -1))], X))
        self.check_raises(store, NoWhen, lambda: store.what_if([("correct", 1, (), ("from", -1))], X))
        self.check_raises(store, Forbidden, lambda: store.what_if([("tell", "open", (), ("from", 7))], X),
                          guard=1, moment=7, row=())
        self.check_raises(store, NoQuestion, lambda: store.what_if([("tell", "open", (), EVER)], WRONG), path=())


class Papers(Stores):
    def test_when_there_are_papers(self):
        store = Store(7)
        store.keep(X)
        self.assertEqual(store.papers(), ())
        store.do([])
        self.assertEqual(store.papers(), ((1, (), None, ()),))
        store.keep(Y)
        self.assertEqual(len(store.papers()), 1)
        store.do([])
        self.assertEqual(store.papers(), ((1, (), None, ()), (2, (), None, ())))
        store.drop(1)
        self.assertEqual(len(store.papers()), 2)
        store.tell("g", (1,), ("span", 2, 4))
        paper = (2, ((1,),), (2, 4), (((1,), never(7), span_table(7, 2, 4)),))
        self.assertEqual(store.papers(), (paper,))
        for call in (lambda: store.withdraw(9), lambda: store.tell("g", ("",), EVER), lambda: store.drop(7)):
            with self.assertRaises(StoreError):
                call()
        store.ask(X)
        store.keep(X)
        store.what_if([("withdraw", 1)], X)
        store.allow(store.forbid(NONE))
        store.facts()
        self.assertEqual(store.papers(), (paper,))
        store.do([])
        self.assertEqual(store.papers(), ((2, (), None, ()), (3, (), None, ())))

    def test_the_example(self):
        store = Store(7)
        store.keep(("once", 2, NONE))
        store.tell("open", (), ("span", 2, 4))
        self.assertEqual(store.papers(), ((1, ((),), (2, 6), (((), never(7), span_table(7, 2, 6)),)),))

    def test_deeds_that_change_nothing(self):
        store = Store(7)
        store.keep(X)
        store.tell("f", (1,), EVER)
        for deeds in ([("tell", "f", (1,), ("span", 3, 5))], [("tell", "f", (2,), EVER), ("withdraw", 3)],
                      [("withdraw", 1), ("tell", "f", (1,), EVER)], [("correct", 2, (1,), ("span", 8, 9))],
                      [("tell", "f", (1, 2), EVER)], [("tell", "g", (1,), EVER)],
                      [("tell", "f", (5,), ("but", EVER, EVER))]):
            store.do(deeds)
            self.assertEqual(store.papers(), ((1, (), None, ()),), deeds)

    def test_rows_that_are_touched_and_do_not_change(self):
        store = Store(7)
        store.do([("tell", "f", (1,), EVER), ("tell", "g", (1,), ("span", 2, 4))])
        store.keep(("either", X, fact("g", "x")))
        store.keep(("once", None, X))
        store.correct(2, row=(1,), when=("span", 2, 6))
        self.assertEqual(store.papers(), ((1, ((1,),), (4, 6), ()), (2, (), None, ())))
        store.do([("correct", 1, (1,), ("but", EVER, ("span", 9, 11))), ("tell", "f", (2,), ("span", 4, 5))])
        rows = ((1,), (2,))
        self.assertEqual(store.papers()[1], (2, rows, (4, None), (((2,), never(7), span_table(7, 4, None)),)))
        self.assertEqual(store.papers()[0][:3], (1, rows, (4, 11)))

    def test_linked_and_ways_are_touched_as_a_whole(self):
        store = Store(7)
        store.do([("tell", "h", (1, 2), EVER), ("tell", "h", (8, 9), EVER)])
        store.keep(("linked", "x", "y", XY))
        store.keep(("way", "x", "y", XY))
        store.tell("h", (2, 3), ("span", 4, 6))
        rows = ((1, 2), (1, 3), (2, 3), (8, 9))
        self.assertEqual([paper[:3] for paper in store.papers()], [(1, rows, (4, 6)), (2, rows, (0, 6))])
        self.assertEqual([[change[0] for change in paper[3]] for paper in store.papers()], [[(1, 3), (2, 3)]] * 2)
        store.tell("f", (2,), EVER)
        self.assertEqual(store.papers(), ((1, (), None, ()), (2, (), None, ())))

    def test_totals_touch_whole_groups(self):
        store = Store(7)
        store.do([("tell", "h", (1, 5), ("span", 0, 9)), ("tell", "h", (2, 5), EVER)])
        store.keep(("count", "n", ("x",), XY))
        store.tell("h", (1, 6), ("span", 20, 22))
        after = from_moments(7, set(range(9)) | {20, 21}, 30)
        self.assertEqual(store.papers(), ((1, ((1, 1),), (20, 22), (((1, 1), span_table(7, 0, 9), after),)),))


class KeptUp(Stores):
    def some_deeds(self, chance, cycle, store):
        numbers = [told[0] for told in store.facts()]
        last = numbers[-1] if numbers else 0
        deeds = []
        for _ in range(chance.choice((0, 1, 1, 2, 3, 5))):
            row = tuple(chance.choice((1, 2, "a", "ab")) for _ in range(chance.choice((0, 1, 1, 2, 2, 2, 3))))
            kind = chance.choice(("tell", "tell", "withdraw", "correct") if numbers else ("tell",))
            number = chance.choice(numbers or [0])
            if chance.randrange(25) == 0:
                number = chance.choice((0, -1, last + 1, last + 9))
                row = chance.choice((row, NINE, ("A",)))
            when = some_when(chance, cycle) if chance.randrange(40) else ("from", -1)
            deeds.append({"tell": ("tell", chance.choice("fgh"), row, when), "withdraw": ("withdraw", number),
                          "correct": ("correct", number, row, when)}[kind])
            if kind == "withdraw" and chance.randrange(20):
                numbers = [other for other in numbers if other != number]
        return deeds

    def plain_outcome(self, cycle, facts, last, deeds, guards):
        """[31], [33]: the facts and the numbers, or the name of an error and what it tells."""
        found = plain_deeds(cycle, facts, last, deeds)
        if isinstance(found[0], str):
            return found
        for number, question in guards:
            first = plain_first(cycle, list(found[0].values()), question)
            if first is not None:
                return "Forbidden", (number,) + first
        return found

    def do(self, store, deeds):
        try:
            return store.do(deeds)
        except (NoFact, NoRow, NoWhen, Forbidden) as error:
            if isinstance(error, NoFact):
                return "NoFact", error.number
            if isinstance(error, Forbidden):
                return "Forbidden", (error.guard, error.moment, error.row)
            return type(error).__name__, None

    def check_run(self, chance, cycle, questions, guards, lists):
        store, facts, last = Store(cycle), {}, 0
        kept = [(store.keep(question), question) for question in questions]
        barred = [(store.forbid(question), question) for question in guards]
        papers, outcomes = (), []
        for _ in range(lists):
            deeds = self.some_deeds(chance, cycle, store)
            expected = self.plain_outcome(cycle, facts, last, deeds, barred)
            outcomes.append(expected[0] if isinstance(expected[0], str) else "done")
            if outcomes[-1] == "done":
                self.assertEqual(self.do(store, deeds), expected[1])
                before, after = list(facts.values()), list(expected[0].values())
                papers = tuple(plain_paper(cycle, number, question, before, after) for number, question in kept)
                for paper in papers:
                    self.check_paper(paper)
                facts = expected[0]
                last += len(expected[1])
            else:
                self.assertEqual(self.do(store, deeds), expected)
            self.assertEqual(store.papers(), papers)
            self.assertEqual(store.facts(), tuple((number,) + facts[number] for number in sorted(facts)))
            for number, question in kept:
                asked = Asked(cycle, list(facts.values()))
                self.assertEqual(store.kept(number), plain_answer_to(asked, question))
                self.assertEqual(store.ask(question), store.kept(number))
        return outcomes

    def check_paper(self, paper):
        """[34]: what the document promises of papers, for the plain one."""
        _, rows, span, changes = paper
        for row, before, after in changes:
            self.assertIn(row, rows)
            self.assertIsNotNone(span)
            self.assertNotEqual(before, after)
            low, high = span
            for moment in range(150):
                if moment < low or (high is not None and moment >= high):
                    self.assertEqual(plain_holds(before, moment), plain_holds(after, moment))

    def test_every_kind(self):
        chance = Random(372)
        for kind in KINDS:
            questions = []
            while len(questions) < 6:
                columns = some_subset(chance, XYZ)
                if kind == "fact":
                    questions.append(some_question(chance, columns, 1))
                elif fits(kind, columns):
                    questions.append(some_of_kind(chance, kind, columns, 2))
            self.check_run(chance, chance.choice((1, 2, 3, 4)), questions, [], 6)

    def test_deeper_questions(self):
        chance = Random(373)
        done = 0
        while done < 14:
            questions = [some_question(chance, some_subset(chance, XYZ), 4) for _ in range(4)]
            if all(Asked(3, []).horizon(question) < 15 for question in questions):
                done += 1
                self.check_run(chance, chance.choice((1, 2, 3)), questions, [], 6)

    def test_guards(self):
        chance = Random(374)
        outcomes = []
        for _ in range(60):
            questions = [some_question(chance, some_subset(chance, XYZ), 2)]
            guards = [("both", fact(chance.choice("fgh"), "x"), some_question(chance, ("x",), 2)) for _ in range(2)]
            outcomes += self.check_run(chance, chance.choice((1, 2, 3)), questions, guards, 8)
        counts = {outcome: outcomes.count(outcome) for outcome in outcomes}
        for outcome in ("done", "NoFact", "NoRow", "NoWhen", "Forbidden"):
            self.assertGreater(counts.get(outcome, 0), 5, counts)
