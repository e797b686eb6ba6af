import unittest
from random import Random

from ateverymoment.errors import NoWhen
from ateverymoment.tables import holds, is_shortest, is_table, never, span_table
from ateverymoment.whens import is_when, when_bound, when_holds, when_table
from tests.plain import plain_shortest

BIG = 10 ** 30


def nested(kind, depth, side=1):
    """A "when" of the depth, with the deep part on the given side."""
    when = ("from", 3)
    for _ in range(depth - 1):
        when = (kind, when, ("span", 1, 2)) if side == 1 else (kind, ("span", 1, 2), when)
    return when


def plain_moments(when, count):
    """[14]: the moments below count."""
    kind = when[0]
    if kind == "span":
        return set(range(when[1], min(when[2], count)))
    if kind == "from":
        return set(range(when[1], count))
    if kind == "round":
        _, start, length, every, times = when
        found = {start + i * every + j for i in range(count if times is None else times) for j in range(length)}
        return {moment for moment in found if moment < count}
    one, other = plain_moments(when[1], count), plain_moments(when[2], count)
    return one | other if kind == "also" else one - other


def plain_bound(when):
    kind = when[0]
    if kind == "span":
        return when[2]
    if kind == "from":
        return when[1]
    if kind == "round":
        return when[1] if when[4] is None else when[1] + (when[4] - 1) * when[3] + when[2]
    return max(plain_bound(when[1]), plain_bound(when[2]))


def some_when(chance, cycle, depth):
    kind = chance.choice(("span", "from", "round", "also", "but")[:5 if depth > 1 else 3])
    start = chance.randrange(12)
    if kind == "span":
        return kind, start, start + chance.randint(1, 10)
    if kind == "from":
        return kind, start
    if kind == "round":
        every = chance.choice([k for k in range(1, cycle + 1) if cycle % k == 0])
        return kind, start, chance.randint(1, every), every, chance.choice((None, 1, 2, 4))
    return kind, some_when(chance, cycle, depth - 1), some_when(chance, cycle, depth - 1)


def some_whens(seed, count):
    chance = Random(seed)
    for _ in range(count):
        cycle = chance.choice((1, 2, 4, 6, 7))
        yield cycle, some_when(chance, cycle, 4)


VALID = (
    ("span", 0, 1), ("span", BIG, BIG + 1), ("from", 0), ("from", BIG), ("round", 0, 1, 1, None), ("round", 0, 1, 1, 1),
    ("round", BIG, 12, 12, BIG), ("round", 5, 3, 4, 2), ("round", 5, 4, 4, None),
    ("also", ("span", 0, 1), ("from", 0)), ("but", ("from", 0), ("from", 0)),
)
NOT_VALID = (
    ("span", 1, 1), ("span", 2, 1), ("span", -1, 1), ("span", -2, -1), ("span", 0, 0), ("span", BIG, BIG),
    ("span", 0, -BIG), ("from", -1), ("from", -BIG), ("round", -1, 1, 1, None), ("round", 0, 0, 1, None),
    ("round", 0, -1, 1, None), ("round", 0, 2, 1, None), ("round", 0, 5, 4, None), ("round", 0, 1, 5, None),
    ("round", 0, 1, 24, None), ("round", 0, 1, BIG, None), ("round", 0, 1, 0, None), ("round", 0, 0, 0, None),
    ("round", 0, -3, -2, None), ("round", 0, -3, -3, None), ("round", 0, 1, -12, None), ("round", 0, 1, 1, 0),
    ("round", 0, 1, 1, -1),
)


class IsWhen(unittest.TestCase):
    def test_valid(self):
        for when in VALID:
            with self.subTest(when=when):
                self.assertIs(is_when(12, when), True)

    def test_not_valid(self):
        for when in NOT_VALID:
            with self.subTest(when=when):
                self.assertIs(is_when(12, when), False)

    def test_both_parts_are_valid(self):
        for kind in ("also", "but"):
            for when in NOT_VALID:
                self.assertIs(is_when(12, (kind, when, ("from", 0))), False)
                self.assertIs(is_when(12, (kind, ("from", 0), when)), False)
                self.assertIs(is_when(12, ("also", ("from", 0), (kind, ("from", 0), when))), False)

    def test_the_cycle_is_a_multiple_of_every(self):
        for cycle in range(1, 61):
            for every in range(1, 62):
                self.assertIs(is_when(cycle, ("round", 3, 1, every, None)), cycle % every == 0)

    def test_the_depth(self):
        for kind in ("also", "but"):
            for side in (1, 2):
                self.assertIs(is_when(1, nested(kind, 12, side)), True)
                self.assertIs(is_when(1, nested(kind, 13, side)), False)
                self.assertIs(is_when(1, nested(kind, 40, side)), False)
        self.assertIs(is_when(1, ("also", nested("but", 11), nested("also", 11))), True)
        self.assertIs(is_when(1, ("also", nested("but", 11), nested("also", 12))), False)
        self.assertIs(is_when(1, ("also", nested("but", 12), nested("also", 11))), False)


class Moments(unittest.TestCase):
    def test_the_example(self):
        self.assertEqual(when_table(6, ("round", 1, 2, 3, None)), (6, ((0, ((1, 3), (4, 6))),)))

    def test_against_the_plain_reading(self):
        for cycle, when in some_whens(51, 400):
            count = plain_bound(when) + 3 * cycle
            moments = plain_moments(when, count)
            expected = plain_shortest(cycle, [moment in moments for moment in range(count)])
            found = when_table(cycle, when)
            self.assertEqual(found, expected, (cycle, when))
            self.assertTrue(is_table(found) and is_shortest(found))
            for moment in range(-8, count):
                self.assertIs(when_holds(when, moment), moment in moments, (when, moment))

    def test_a_when_without_any_moment(self):
        for when in (("span", 1, 5), ("from", BIG), ("round", 2, 1, 3, None)):
            self.assertEqual(when_table(6, ("but", when, when)), never(6))
            self.assertIs(when_holds(("but", when, when), BIG), False)

    def test_a_round_that_leaves_no_gap(self):
        self.assertEqual(when_table(6, ("round", 4, 3, 3, None)), span_table(6, 4, None))
        self.assertEqual(when_table(6, ("round", 4, 3, 3, BIG)), span_table(6, 4, 4 + 3 * BIG))

    def test_one_time(self):
        self.assertEqual(when_table(60, ("round", BIG, 7, 60, 1)), span_table(60, BIG, BIG + 7))

    def test_negative_integers(self):
        for when in (("span", 0, 9), ("from", 0), ("round", 0, 2, 3, None), ("round", 0, 2, 3, 5)):
            for moment in (-1, -2, -3, -6, -BIG):
                self.assertIs(when_holds(when, moment), False)
                self.assertIs(when_holds(("also", when, when), moment), False)
                self.assertIs(when_holds(("but", when, ("from", BIG)), moment), False)

    def test_very_large_numbers(self):
        when = ("round", BIG, 2, 6, BIG)
        last = BIG + 6 * (BIG - 1)
        table = when_table(6, when)
        for moment, expected in (
            (BIG - 1, False), (BIG, True), (BIG + 1, True), (BIG + 2, False), (BIG + 6, True), (last - 1, False),
            (last, True), (last + 1, True), (last + 2, False), (last + 6, False), (10 ** 4000, False),
        ):
            self.assertIs(when_holds(when, moment), expected)
            self.assertIs(holds(table, moment), expected)

    def test_not_valid(self):
        for when in NOT_VALID:
            with self.subTest(when=when):
                with self.assertRaises(NoWhen):
                    when_table(12, when)
                with self.assertRaises(NoWhen):
                    when_table(12, ("but", ("from", 0), when))
        with self.assertRaises(NoWhen):
            when_table(1, nested("but", 13))
        self.assertEqual(when_table(1, nested("also", 12)), (1, ((0, ()), (1, ((0, 1),)), (2, ()), (3, ((0, 1),)))))

    def test_a_when_of_sixty_parts(self):
        parts = [("span", 3 * k, 3 * k + 1) for k in range(30)]
        while len(parts) > 1:
            parts = [("also",) + tuple(parts[k:k + 2]) if k + 1 < len(parts) else parts[k]
                     for k in range(0, len(parts), 2)]
        self.assertEqual(when_table(3, parts[0]), (3, ((0, ((0, 1),)), (90, ()))))


class Bound(unittest.TestCase):
    def test_each_form(self):
        self.assertEqual(when_bound(("span", 3, 9)), 9)
        self.assertEqual(when_bound(("from", 4)), 4)
        self.assertEqual(when_bound(("round", 5, 2, 3, None)), 5)
        self.assertEqual(when_bound(("round", 5, 2, 3, 1)), 7)
        self.assertEqual(when_bound(("round", 5, 2, 3, 4)), 16)
        self.assertEqual(when_bound(("also", ("span", 3, 9), ("from", 4))), 9)
        self.assertEqual(when_bound(("but", ("span", 3, 9), ("from", 14))), 14)

    def test_against_the_plain_reading(self):
        for _, when in some_whens(52, 200):
            self.assertEqual(when_bound(when), plain_bound(when))

    def test_very_large_numbers(self):
        self.assertEqual(when_bound(("round", BIG, 2, 6, BIG)), BIG + 6 * (BIG - 1) + 2)
        self.assertEqual(when_bound(("but", ("from", BIG), ("span", 0, 10 ** 4000))), 10 ** 4000)
