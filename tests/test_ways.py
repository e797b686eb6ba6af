import unittest
from random import Random

from ateverymoment.answers import make_answer, row_table, rows_at
from ateverymoment.errors import OtherColumns
from ateverymoment.tables import always, holds, never, span_table
from ateverymoment.ways import journey, linked, ways
from ateverymoment.whens import when_table
from tests.asking import Asked, linked_rows
from tests.given import Given, end_of_all, leaf, of_answers, plain_form, plain_rows_at, some_answer
from tests.plain import from_moments, plain_holds

BIG = 10 ** 30
XY = ("x", "y")
VALUES = (1, 2, 3, "a", "ab")
BUSES = make_answer(4, XY, [(("a", "b"), span_table(4, 3, 4)), (("b", "c"), (4, ((0, ((0, 1),)),)))])


def steps(cycle, *pairs):
    return make_answer(cycle, XY, [((row[0], row[1]), table) for row, table in pairs])


def some_steps(seed, count, cycles=(1, 2, 3, 4)):
    chance = Random(seed)
    for _ in range(count):
        yield chance, some_answer(chance, chance.choice(cycles), XY, VALUES[:chance.randint(1, 5)], chance.randint(3, 12))


def every(cycle, phase):
    """The table of the moments with one phase."""
    return cycle, ((0, ((phase % cycle, phase % cycle + 1),)),)


class Ways(unittest.TestCase):
    def check(self, found, expected):
        self.assertEqual(found, expected)
        self.assertIsNone(plain_form(found))


class Linked(Ways):
    def test_against_the_plain_reading(self):
        for _, answer in some_steps(331, 250):
            found = linked(answer)
            self.check(found, of_answers("linked", XY, answer))
            self.assertEqual(found, of_answers("linked", ("y", "x"), answer))

    def test_cycle_60(self):
        for _, answer in some_steps(332, 3, (60,)):
            self.check(linked(answer), of_answers("linked", XY, answer))

    def test_at_some_moments_only(self):
        answer = steps(7, ("ab", span_table(7, 0, 9)), ("bc", span_table(7, 5, 20)), ("cd", every(7, 6)))
        self.check(linked(answer), steps(7, ("ab", span_table(7, 0, 9)), ("bc", span_table(7, 5, 20)), ("cd", every(7, 6)),
                                         ("ac", span_table(7, 5, 9)), ("bd", from_moments(7, {6, 13}, 20)),
                                         ("ad", from_moments(7, {6}, 20))))

    def test_loops(self):
        answer = steps(7, ("ab", always(7)), ("bc", always(7)), ("ca", span_table(7, 3, 5)))
        everything = [(one + other, span_table(7, 3, 5)) for one in "abc" for other in "abc"]
        self.check(linked(answer), steps(7, *everything, ("ab", always(7)), ("bc", always(7)), ("ac", always(7))))
        alone = steps(7, ("aa", span_table(7, 2, 3)))
        self.check(linked(alone), alone)
        self.check(linked(steps(7, ("ab", always(7)), ("ba", always(7)))),
                   steps(7, *[(one + other, always(7)) for one in "ab" for other in "ab"]))

    def test_no_entries(self):
        self.check(linked((7, XY, ())), (7, XY, ()))
        self.check(linked((60, ("p", "q"), ())), (60, ("p", "q"), ()))

    def test_a_long_chain(self):
        for chain in (range(60), range(60, 0, -1)):
            answer = make_answer(7, XY, [((k, k + 1), span_table(7, 0, 1000 - k)) for k in chain])
            found = linked(answer)
            many = len(chain)
            self.assertEqual(len(found[2]), many * (many + 1) // 2)
            for one, other in ((1, 2), (5, 40), (40, 41), (1, 60)):
                self.assertEqual(row_table(found, (one, other)), span_table(7, 0, 1001 - other))
                self.assertEqual(row_table(found, (other, one)), never(7))

    def test_many_starts(self):
        chance = Random(333)
        rows = [(chance.randrange(9), chance.randrange(9)) for _ in range(20)]
        moments = {row: {chance.randrange(400) for _ in range(60)} for row in rows}
        answer = make_answer(1, XY, [(row, from_moments(1, moments[row], 400)) for row in moments])
        self.assertGreater(len({start for _, lines in answer[2] for start, _ in lines}), 300)
        found = linked(answer)
        for moment in range(402):
            self.assertEqual(set(rows_at(found, moment)), linked_rows(set(rows_at(answer, moment))))

    def test_many_starts_and_an_end_at_any_of_them(self):
        many = from_moments(1, set(range(0, 300, 2)), 300)
        for end in list(range(1, 5)) + list(range(60, 70)) + list(range(126, 131)) + [200]:
            answer = steps(1, ("pq", many), ("ab", span_table(1, 0, end)), ("bc", always(1)))
            self.assertEqual(linked(answer), steps(1, ("pq", many), ("ab", span_table(1, 0, end)), ("bc", always(1)),
                                                   ("ac", span_table(1, 0, end))))

    def test_starts_of_any_size(self):
        answer = steps(7, ("ab", span_table(7, BIG, None)), ("bc", span_table(7, 0, BIG + 2)))
        self.check(linked(answer), steps(7, ("ab", span_table(7, BIG, None)), ("bc", span_table(7, 0, BIG + 2)),
                                         ("ac", span_table(7, BIG, BIG + 2))))


class Way(Ways):
    def test_against_the_plain_reading(self):
        for _, answer in some_steps(334, 250):
            self.check(ways(answer, "x", "y"), of_answers("way", ("x", "y"), answer))
            self.check(ways(answer, "y", "x"), of_answers("way", ("y", "x"), answer))

    def test_cycle_60(self):
        for _, answer in some_steps(335, 2, (60,)):
            self.check(ways(answer, "x", "y"), of_answers("way", ("x", "y"), answer))

    def test_the_example_and_the_other_order(self):
        found = ways(BUSES, "x", "y")
        self.check(found, make_answer(4, XY, [(("a", "b"), span_table(4, 0, 4)), (("a", "c"), span_table(4, 0, 4)),
                                              (("b", "c"), always(4))]))
        self.check(ways(BUSES, "y", "x"), make_answer(4, XY, [(("b", "c"), always(4)), (("a", "b"), span_table(4, 0, 4)),
                                                              (("a", "c"), span_table(4, 0, 1))]))

    def test_two_steps_are_not_taken_at_one_moment(self):
        self.check(ways(steps(7, ("ab", span_table(7, 4, 5)), ("bc", span_table(7, 4, 5))), "x", "y"),
                   steps(7, ("ab", span_table(7, 0, 5)), ("bc", span_table(7, 0, 5))))
        self.check(ways(steps(7, ("ab", span_table(7, 4, 5)), ("bc", span_table(7, 5, 6))), "x", "y"),
                   steps(7, ("ab", span_table(7, 0, 5)), ("bc", span_table(7, 0, 6)), ("ac", span_table(7, 0, 5))))

    def test_steps_that_come_round_for_ever(self):
        answer = steps(7, ("ab", every(7, 5)), ("bc", every(7, 3)), ("cd", every(7, 4)), ("de", span_table(7, 50, 60)))
        found = ways(answer, "x", "y")
        for row in ("ab", "bc", "cd", "ac", "bd", "ad"):
            self.assertEqual(row_table(found, tuple(row)), always(7))
        # d is left at 59 at the latest: c at 53, b at 52, a at 47.
        for row, end in (("de", 60), ("ce", 54), ("be", 53), ("ae", 48)):
            self.assertEqual(row_table(found, tuple(row)), span_table(7, 0, end))

    def test_loops(self):
        answer = steps(7, ("aa", span_table(7, 3, 5)))
        self.check(ways(answer, "x", "y"), steps(7, ("aa", span_table(7, 0, 5))))
        found = ways(steps(7, ("ab", span_table(7, 3, 4)), ("ba", span_table(7, 8, 9))), "x", "y")
        self.check(found, steps(7, ("ab", span_table(7, 0, 4)), ("ba", span_table(7, 0, 9)), ("aa", span_table(7, 0, 4))))
        round_about = steps(7, ("ab", every(7, 1)), ("bc", every(7, 0)), ("ca", every(7, 3)))
        self.check(ways(round_about, "y", "x"),
                   steps(7, *[(one + other, always(7)) for one in "abc" for other in "abc"]))

    def test_no_entries(self):
        self.check(ways((7, XY, ()), "x", "y"), (7, XY, ()))
        self.check(ways((7, XY, ()), "y", "x"), (7, XY, ()))

    def test_long_chains(self):
        back = make_answer(60, XY, [((k, k + 1), every(60, -k)) for k in range(80)])
        self.assertEqual([row_table(ways(back, "x", "y"), row) for row in ((0, 80), (79, 80), (80, 0))],
                         [always(60), always(60), never(60)])
        # Each step comes one phase before the step before it. So each takes nearly a cycle, and one ends for ever.
        moments = [[(-k) % 60 + 60 * turn for turn in range(100)] for k in range(80)]
        ended = make_answer(60, XY, [((k, k + 1), when_table(60, ("round", (-k) % 60, 1, 60, 100)))
                                     for k in range(80)])
        found = ways(ended, "x", "y")
        for one in (0, 10, 50, 79):
            last = 10 ** 6
            for k in range(79, one - 1, -1):
                last = max(moment for moment in moments[k] if moment < last)
            self.assertEqual(row_table(found, (one, 80)), span_table(60, 0, last + 1))

    def test_starts_of_any_size(self):
        answer = steps(7, ("ab", span_table(7, BIG, 2 * BIG)), ("bc", span_table(7, BIG, BIG + 2)), ("cd", every(7, 2)))
        found = ways(answer, "x", "y")
        self.check(found, steps(7, ("ab", span_table(7, 0, 2 * BIG)), ("bc", span_table(7, 0, BIG + 2)), ("cd", always(7)),
                                ("ac", span_table(7, 0, BIG + 1)), ("bd", span_table(7, 0, BIG + 2)),
                                ("ad", span_table(7, 0, BIG + 1))))


def reaches(answer, start, goal, moment):
    """Whether there is a journey, by going from moment to moment."""
    return plain_arrival(answer, "x", "y", start, goal, moment) is not None


def plain_arrival(answer, x, y, start, goal, moment):
    """The moment of the last step of the best journeys, by going from moment to moment, or None."""
    cycle, columns, entries = answer
    there = {start}
    arrived = set()
    end = max(moment, end_of_all(answer)) + cycle * (2 * len(entries) + 2)
    for now in range(moment, end):
        rows = [row if (x, y) == columns else row[::-1] for row in plain_rows_at(answer, now)]
        arrived |= {other for one, other in rows if one in there or one in arrived}
        if goal in arrived:
            return now
    return None


class Journey(unittest.TestCase):
    def check(self, answer, x, y, start, goal, moment, end):
        """Check that the journey is one, and that it ends at this moment."""
        found = journey(answer, x, y, start, goal, moment)
        if end is None:
            self.assertIsNone(found)
            return
        self.assertIs(type(found), tuple)
        self.assertEqual({type(step) for step in found}, {tuple})
        self.assertEqual((found[0][1], found[-1][2], found[-1][0]), (start, goal, end))
        self.assertGreaterEqual(found[0][0], moment)
        for (before, _, there), (now, here, _) in zip(found, found[1:]):
            self.assertLess(before, now)
            self.assertEqual(there, here)
        tables = {row: (answer[0], lines) for row, lines in answer[2]}
        for now, one, other in found:
            row = (one, other) if (x, y) == answer[1] else (other, one)
            self.assertTrue(plain_holds(tables[row], now))

    def test_against_the_plain_reading(self):
        found = 0
        for chance, answer in some_steps(336, 300):
            x, y = chance.sample(XY, 2)
            for _ in range(6):
                start, goal = chance.choice(VALUES), chance.choice(VALUES)
                moment = chance.randrange(end_of_all(answer) + 2 * answer[0] + 1)
                end = plain_arrival(answer, x, y, start, goal, moment)
                self.check(answer, x, y, start, goal, moment, end)
                found += end is not None
        self.assertGreater(found, 120)

    def test_there_is_a_journey_exactly_if_there_is_a_way(self):
        for _, answer in some_steps(337, 80):
            for x, y in (("x", "y"), ("y", "x")):
                there = ways(answer, x, y)
                for start in VALUES:
                    for goal in VALUES:
                        table = row_table(there, (start, goal) if x == "x" else (goal, start))
                        for moment in (0, 1, 5, 20):
                            self.assertEqual(journey(answer, x, y, start, goal, moment) is not None, holds(table, moment))

    def test_the_example(self):
        self.assertEqual(journey(BUSES, "x", "y", "a", "c", 2), ((3, "a", "b"), (4, "b", "c")))
        self.assertEqual(journey(BUSES, "x", "y", "a", "c", 0), ((3, "a", "b"), (4, "b", "c")))
        self.assertIsNone(journey(BUSES, "x", "y", "a", "c", 4))
        self.assertEqual(journey(BUSES, "y", "x", "c", "a", 0), ((0, "c", "b"), (3, "b", "a")))

    def test_one_step(self):
        self.assertEqual(journey(BUSES, "x", "y", "a", "b", 3), ((3, "a", "b"),))
        self.assertEqual(journey(BUSES, "x", "y", "b", "c", 5), ((8, "b", "c"),))

    def test_from_a_value_to_the_same_value(self):
        self.assertIsNone(journey(BUSES, "x", "y", "a", "a", 0))
        answer = steps(7, ("ab", span_table(7, 3, 4)), ("ba", every(7, 1)), ("aa", span_table(7, 20, 21)))
        self.assertEqual(journey(answer, "x", "y", "a", "a", 0), ((3, "a", "b"), (8, "b", "a")))
        self.assertEqual(journey(answer, "x", "y", "a", "a", 4), ((20, "a", "a"),))
        self.assertIsNone(journey(answer, "x", "y", "a", "a", 21))

    def test_values_that_no_row_has(self):
        for start, goal in (("q", "c"), ("a", "q"), ("q", "q"), (1, 2), (-BIG, "c")):
            self.assertIsNone(journey(BUSES, "x", "y", start, goal, 0))
        self.assertIsNone(journey((7, XY, ()), "x", "y", "a", "b", 0))

    def test_a_journey_over_many_cycles(self):
        answer = make_answer(60, XY, [((k, k + 1), every(60, -k)) for k in range(80)])
        found = journey(answer, "x", "y", 0, 80, 1)
        self.assertEqual(len(found), 80)
        self.assertEqual(found[0], (60, 0, 1))
        self.assertEqual([later[0] - step[0] for step, later in zip(found, found[1:])], [59] * 79)
        for moment in (0, 1):
            end = found[-1][0] - (60 if moment == 0 else 0)
            self.check(answer, "x", "y", 0, 80, moment, end)

    def test_a_step_that_does_not_come_again(self):
        answer = steps(7, ("ab", every(7, 3)), ("bc", span_table(7, 0, 3)), ("bd", every(7, 2)), ("dc", every(7, 2)))
        self.check(answer, "x", "y", "a", "c", 0, 16)
        self.assertEqual(journey(answer, "x", "y", "a", "c", 0), ((3, "a", "b"), (9, "b", "d"), (16, "d", "c")))

    def test_moments_of_any_size(self):
        for moment in (BIG, 10 ** 4000):
            answer = steps(7, ("ab", span_table(7, 5 * moment, 5 * moment + 1)), ("bc", every(7, 3)))
            found = journey(answer, "x", "y", "a", "c", moment)
            self.assertEqual(found[0], (5 * moment, "a", "b"))
            self.assertEqual((found[1][0] > 5 * moment, found[1][0] - 5 * moment <= 7, found[1][0] % 7), (True, True, 3))
            self.assertIsNone(journey(answer, "x", "y", "a", "c", 5 * moment + 1))
            self.assertEqual(journey(answer, "x", "y", "b", "c", 7 * moment), ((7 * moment + 3, "b", "c"),))

    def test_other_columns(self):
        one = make_answer(7, ("x",), [((1,), always(7))])
        three = make_answer(7, ("x", "y", "z"), [((1, 2, 3), always(7))])
        none = make_answer(7, (), [((), always(7))])
        for answer, x, y in (
            (BUSES, "x", "z"), (BUSES, "z", "y"), (BUSES, "x", "x"), (BUSES, "y", "y"), (BUSES, "p", "q"),
            (one, "x", "x"), (one, "x", "y"), (three, "x", "y"), (three, "x", "z"), (three, "y", "y"),
            (none, "x", "y"), (none, "x", "x"), ((7, ("x", "z"), ()), "x", "y"), ((7, ("x",), ()), "x", "x"),
        ):
            for start, goal in ((1, 2), ("a", "a")):
                with self.assertRaises(OtherColumns):
                    journey(answer, x, y, start, goal, 0)

    def test_the_answer_stays_as_it_was(self):
        before = repr(BUSES)
        linked(BUSES)
        ways(BUSES, "y", "x")
        journey(BUSES, "x", "y", "a", "c", 0)
        self.assertEqual(repr(BUSES), before)


class Together(unittest.TestCase):
    def test_the_two_plain_readings_agree(self):
        for _, answer in some_steps(338, 40):
            asked = Given(answer[0], {"p": answer})
            self.assertIsInstance(asked, Asked)
            question = ("way", "x", "y", leaf("p", XY))
            for moment in range(end_of_all(answer) + answer[0]):
                for start in VALUES:
                    for goal in VALUES:
                        self.assertEqual((start, goal) in asked.rows(question, moment),
                                         reaches(answer, start, goal, moment))
