import inspect
import unittest
from itertools import islice
from random import Random

from ateverymoment.answers import make_answer
from ateverymoment.errors import NoFact, NoKept
from ateverymoment.rings import Bell, next_ring, ring_at, ringing, rings_before, some_rings, turned
from ateverymoment.store import Store
from ateverymoment.tables import always, never, span_table
from tests.asking import NONE, X
from tests.given import end_of_all, plain_rows_at, row_order, some_answer
from tests.plain import from_moments, plain_shortest

BIG = 10 ** 30
WORKDAYS = (7, ((0, ((0, 5),)),))
OPEN = make_answer(7, ("x",), [(("bar",), WORKDAYS), (("inn",), span_table(7, 3, 20))])
EMPTY = (7, ("x",), ())


def plain_rings(answer, count, row=None):
    """[38]: the rings among the first moments."""
    rows = [set(plain_rows_at(answer, moment)) for moment in range(-1, count)]
    if row is not None:
        rows = [there & {row} for there in rows]
    return [moment for moment in range(count) if rows[moment] != rows[moment + 1]]


def some_cases(seed, count):
    """Answers, rows (or None), the rings among many moments, and a moment behind which all is as a cycle before."""
    chance = Random(seed)
    for _ in range(count):
        columns = chance.choice(((), ("x",), ("x",), ("x", "y")))
        answer = some_answer(chance, chance.choice((1, 2, 3, 5)), columns, (1, 2, "a"), 4)
        rows = [row for row, _ in answer[2]]
        row = chance.choice([None, None] + rows + [(), (1,), (9,), (1, 2, 3), ("q", 1)])
        yield chance, answer, row, plain_rings(answer, 120, row), end_of_all(answer) + 1


class Rings(unittest.TestCase):
    def test_the_table_against_the_plain_reading(self):
        for _, answer, row, rings, end in some_cases(381, 400):
            count = end + 2 * answer[0]
            held = [moment in rings for moment in range(count)]
            self.assertEqual(ringing(answer, row=row), plain_shortest(answer[0], held))

    def test_finding_against_the_plain_reading(self):
        for chance, answer, row, rings, _ in some_cases(382, 400):
            for moment in list(range(-3, 12)) + [chance.randrange(80)]:
                later = [ring for ring in rings if ring > moment]
                self.assertEqual(next_ring(answer, moment, row=row), later[0] if later else None)
                self.assertEqual(rings_before(answer, moment, row=row), len([ring for ring in rings if ring < moment]))
            for n in range(min(len(rings), 40)):
                self.assertEqual(ring_at(answer, n, row=row), rings[n])
            if not rings or rings[-1] < 60:
                self.assertIsNone(ring_at(answer, len(rings), row=row))
                self.assertIsNone(ring_at(answer, len(rings) + 5, row=row))

    def test_some_rings_against_the_plain_reading(self):
        for chance, answer, row, rings, _ in some_cases(383, 400):
            count, after = chance.randrange(7), chance.choice((-1, 0, 1, 5, 17, -4))
            expected = [ring for ring in rings if ring > after][:count]
            self.assertEqual(list(some_rings(answer, count, after=after, row=row)), expected)
            self.assertEqual(list(some_rings(answer, count, row=row)), rings[:count])

    def test_turned_against_the_plain_reading(self):
        for _, answer, _, rings, end in some_cases(384, 200):
            for moment in range(end + 2 * answer[0]):
                now, before = set(plain_rows_at(answer, moment)), set(plain_rows_at(answer, moment - 1))
                found = turned(answer, moment)
                self.assertEqual(found, (tuple(sorted(now - before, key=row_order)),
                                         tuple(sorted(before - now, key=row_order))))
                self.assertEqual([type(part) for part in (found,) + found], [tuple] * 3)
                self.assertEqual(found == ((), ()), moment not in plain_rings(answer, moment + 1))

    def test_rows(self):
        weekly = [7 * week + phase for week in range(9) for phase in (0, 5)]
        self.assertEqual(ringing(OPEN, row=("bar",)), (7, ((0, ((0, 1), (5, 6))),)))
        self.assertEqual(ringing(OPEN, row=("inn",)), from_moments(7, {3, 20}, 30))
        self.assertEqual(list(some_rings(OPEN, 8)), sorted(set(weekly) | {3, 20})[:8])
        for row in (("q",), (), ("bar", "inn"), (1,)):
            self.assertEqual(ringing(OPEN, row=row), never(7))
            self.assertIsNone(next_ring(OPEN, -1, row=row))
            self.assertIsNone(ring_at(OPEN, 0, row=row))
            self.assertEqual(rings_before(OPEN, BIG, row=row), 0)
            self.assertEqual(list(some_rings(OPEN, 5, row=row)), [])

    def test_the_row_without_values(self):
        answer = make_answer(7, (), [((), span_table(7, 2, 4))])
        self.assertEqual(list(some_rings(answer, 5, row=())), [2, 4])
        self.assertEqual(list(some_rings(answer, 5)), [2, 4])
        self.assertEqual(list(some_rings(answer, 5, row=(1,))), [])

    def test_rows_that_turn_at_the_same_moment(self):
        answer = make_answer(7, ("x",), [((1,), span_table(7, 2, 5)), ((2,), span_table(7, 5, 9)), ((3,), always(7))])
        self.assertEqual(list(some_rings(answer, 9)), [0, 2, 5, 9])
        self.assertEqual(turned(answer, 5), (((2,),), ((1,),)))
        self.assertEqual(turned(answer, 0), (((3,),), ()))

    def test_at_0(self):
        self.assertEqual(next_ring(OPEN, -1), 0)
        self.assertEqual(next_ring(OPEN, -BIG), 0)
        self.assertEqual(next_ring(OPEN, 0), 3)
        self.assertEqual([rings_before(OPEN, moment) for moment in (-BIG, -1, 0, 1)], [0, 0, 0, 1])
        self.assertEqual(turned(OPEN, 0), ((("bar",),), ()))
        self.assertEqual(next_ring(OPEN, -1, row=("inn",)), 3)

    def test_no_entries(self):
        for answer in (EMPTY, (60, (), ())):
            for row in (None, (), ("bar",)):
                self.assertEqual(ringing(answer, row=row), never(answer[0]))
                self.assertIsNone(next_ring(answer, -1, row=row))
                self.assertIsNone(ring_at(answer, 0, row=row))
                self.assertEqual(rings_before(answer, BIG, row=row), 0)
                self.assertEqual(list(some_rings(answer, 3, row=row)), [])
            self.assertEqual(turned(answer, 0), ((), ()))
            self.assertEqual(turned(answer, BIG), ((), ()))

    def test_at_any_size(self):
        self.assertEqual(next_ring(OPEN, 7 * BIG), 7 * BIG + 5)
        self.assertEqual(next_ring(OPEN, 7 * BIG - 1), 7 * BIG)
        self.assertEqual(rings_before(OPEN, 7 * BIG), 2 * BIG + 2)
        self.assertEqual(ring_at(OPEN, 2 * BIG + 2), 7 * BIG)
        self.assertEqual(ring_at(OPEN, 2 * BIG, row=("bar",)), 7 * BIG)
        self.assertEqual(rings_before(OPEN, 7 * 10 ** 4000, row=("bar",)), 2 * 10 ** 4000)
        self.assertEqual(turned(OPEN, 7 * BIG), ((("bar",),), ()))
        self.assertEqual(turned(OPEN, 7 * BIG + 5), ((), (("bar",),)))
        self.assertEqual(turned(OPEN, 7 * BIG + 1), ((), ()))
        self.assertEqual(list(some_rings(OPEN, 2, after=7 * BIG)), [7 * BIG + 5, 7 * BIG + 7])

    def test_some_rings_is_a_generator(self):
        self.assertTrue(inspect.isgeneratorfunction(some_rings))
        self.assertEqual(list(islice(some_rings(OPEN, BIG), 3)), [0, 3, 5])
        self.assertEqual(list(some_rings(OPEN, 0)), [])
        self.assertEqual(list(some_rings(OPEN, 0, after=5, row=("bar",))), [])
        self.assertEqual(list(some_rings(OPEN, 9, row=("inn",))), [3, 20])
        self.assertEqual(list(some_rings(OPEN, 9, after=3, row=("inn",))), [20])
        self.assertEqual(list(some_rings(OPEN, 9, after=20, row=("inn",))), [])
        self.assertEqual(list(some_rings(OPEN, 2, after=-BIG)), [0, 3])


class Bells(unittest.TestCase):
    def store(self):
        store = Store(7)
        store.do([("tell", "f", ("bar",), ("round", 0, 5, 7, None)), ("tell", "f", ("inn",), ("span", 3, 20))])
        return store, store.keep(X)

    def check(self, bell, moment, count):
        self.assertEqual((bell.moment, bell.count), (moment, count))

    def test_forward(self):
        store, number = self.store()
        bell = Bell(store, number)
        self.check(bell, -1, 0)
        for count, ring in enumerate((0, 3, 5, 7, 12, 14, 19, 20, 21, 26)):
            self.assertEqual(bell.forward(), ring)
            self.check(bell, ring, count + 1)
        bell = Bell(store, number, row=("inn",))
        self.assertEqual([bell.forward() for _ in range(4)], [3, 20, None, None])
        self.check(bell, 20, 2)

    def test_advance(self):
        store, number = self.store()
        bell = Bell(store, number)
        for to, passed, moment, count in (
            (-5, 0, -1, 0), (-1, 0, -1, 0), (0, 1, 0, 1), (0, 0, 0, 1), (2, 0, 2, 1), (5, 2, 5, 3), (3, 0, 5, 3),
            (-BIG, 0, 5, 3), (6, 0, 6, 3), (21, 6, 21, 9), (7 * BIG, 2 * BIG - 6, 7 * BIG, 2 * BIG + 3),
            (BIG, 0, 7 * BIG, 2 * BIG + 3),
        ):
            self.assertEqual(bell.advance(to), passed)
            self.check(bell, moment, count)

    def test_by_turns(self):
        store, number = self.store()
        bell = Bell(store, number, row=("bar",))
        self.assertEqual([bell.forward(), bell.advance(6), bell.forward(), bell.advance(7), bell.advance(15)], [0, 1, 7, 0, 2])
        self.check(bell, 15, 5)
        self.assertEqual([bell.forward(), bell.advance(7 * BIG), bell.forward()], [19, 2 * BIG - 5, 7 * BIG + 5])
        self.check(bell, 7 * BIG + 5, 2 * BIG + 2)

    def test_against_the_plain_reading(self):
        chance = Random(385)
        for _ in range(60):
            store = Store(chance.choice((1, 2, 3)))
            number = store.keep(X)
            row = chance.choice((None, None, (1,), ("a",), (), (5,)))
            bell = Bell(store, number, row=row)
            moment, count = -1, 0
            for _ in range(12):
                if chance.randrange(3) == 0:
                    start = chance.randrange(20)
                    store.tell("f", (chance.choice((1, "a")),), ("span", start, start + chance.randint(1, 6)))
                if chance.randrange(6) == 0 and store.facts():
                    store.withdraw(store.facts()[0][0])
                rings = [ring for ring in plain_rings(store.kept(number), 60, row) if ring > moment]
                if chance.randrange(2):
                    self.assertEqual(bell.forward(), rings[0] if rings else None)
                    moment, count = (rings[0], count + 1) if rings else (moment, count)
                else:
                    to = moment + chance.randint(-3, 5)
                    passed = [ring for ring in rings if ring <= to]
                    self.assertEqual(bell.advance(to), len(passed))
                    moment, count = max(moment, to), count + len(passed)
                self.check(bell, moment, count)

    def test_deeds_between_the_calls(self):
        store = Store(7)
        number = store.keep(NONE)
        bell = Bell(store, number)
        self.assertIsNone(bell.forward())
        self.check(bell, -1, 0)
        store.tell("open", (), ("span", 2, 9))
        self.assertEqual(bell.forward(), 2)
        store.correct(1, row=(), when=("span", 1, 6))
        self.check(bell, 2, 1)
        self.assertEqual(bell.forward(), 6)
        store.withdraw(1)
        self.assertIsNone(bell.forward())
        self.assertEqual(bell.advance(20), 0)
        self.check(bell, 20, 2)
        store.tell("open", (), ("from", 5))
        self.assertIsNone(bell.forward())
        store.correct(2, row=(), when=("from", 21))
        self.assertEqual(bell.forward(), 21)
        with self.assertRaises(NoFact):
            store.do([("withdraw", 2), ("withdraw", 2)])
        self.check(bell, 21, 3)

    def test_no_kept(self):
        store, number = self.store()
        for wrong in (0, -1, number + 1, BIG):
            with self.assertRaises(NoKept) as caught:
                Bell(store, wrong)
            self.assertEqual(caught.exception.number, wrong)
        bell = Bell(store, number)
        bell.forward()
        store.drop(number)
        for call in (bell.forward, lambda: bell.advance(10), lambda: bell.advance(0), lambda: bell.advance(-5),
                     lambda: Bell(store, number), lambda: Bell(store, number, row=("bar",))):
            with self.assertRaises(NoKept) as caught:
                call()
            self.assertEqual(caught.exception.number, number)
        self.check(bell, 0, 1)
        self.assertEqual(store.keep(X), number + 1)
        with self.assertRaises(NoKept):
            bell.forward()

    def test_two_bells_of_one_question(self):
        store, number = self.store()
        one, other = Bell(store, number), Bell(store, number)
        one.advance(100)
        self.check(other, -1, 0)
        self.assertEqual(other.forward(), 0)

    def test_the_answer_stays_as_it_was(self):
        before = repr(OPEN)
        ringing(OPEN)
        list(some_rings(OPEN, 4))
        turned(OPEN, 3)
        self.assertEqual(repr(OPEN), before)
