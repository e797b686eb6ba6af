"""Simpler questions with the same rows at every moment."""

from ateverymoment.kinds import EVERY_MOMENT, FOLLOWING, LOOKING, SOME_MOMENT
from ateverymoment.questions import columns_of, parts_of

SAME_TWICE = ("both", "either", "since", "until")
SHIFTED_TOGETHER = ("both", "either", "unless")


def simplified(question):
    """Return the simplified question of a valid question."""
    found = with_simple_parts(question)
    changed = changed_by_rule(found)
    while changed is not None:
        found = with_simple_parts(changed)
        changed = changed_by_rule(found)
    return found


def with_simple_parts(question):
    """Return the question with each part simplified."""
    parts = parts_of(question)
    return question[:len(question) - len(parts)] + tuple([simplified(part) for part in parts])


def changed_by_rule(question):
    """Return what the first of the twelve rules that fits makes of the question, or None if none fits."""
    # No rule is about kinds with one part and kinds with two. So the rules may be tried in two groups.
    if len(parts_of(question)) == 1:
        return changed_with_one_part(question)
    return changed_with_two_parts(question)


def changed_with_one_part(question):
    """Return what the first of the rules 1 to 4 and 6 to 8 that fits makes of the question, or None."""
    match question:
        case ("shift", 0, part):
            return part
        case ("shift", a, ("shift", b, part)) if a >= 0 or b <= 0:
            return "shift", a + b, part
        case (kind, 0, part) if kind in LOOKING:
            return part
        case (kind, a, (same, b, part)) if kind in LOOKING and kind == same:
            return kind, joined_bound(a, b), part
        case ("only", columns, part):
            return changed_only(columns, part)
        case ("linked", _, _, part) if part[0] == "linked":
            return part
    return None


def joined_bound(one, other):
    """Return the bound that reaches as far as the two bounds one after the other."""
    if one is None or other is None:
        return None
    return one + other


def changed_only(columns, part):
    """Return what the first of the rules 6 and 7 that fits makes of an "only", or None."""
    if columns == columns_of(part):
        return part
    if part[0] == "only":
        return "only", columns, part[2]
    return None


def changed_with_two_parts(question):
    """Return what the first of the rules 5 and 9 to 12 that fits makes of the question, or None."""
    match question:
        case (kind, p, q) if kind in SAME_TWICE and p == q:
            return p
        case (kind, ("shift", a, p), ("shift", b, q)) if kind in SHIFTED_TOGETHER and a == b:
            return "shift", a, (kind, p, q)
        case ("either", (kind, a, p), (same, b, q)) if kind in SOME_MOMENT and (kind, a) == (same, b):
            return kind, a, ("either", p, q)
        case ("both", (kind, a, p), (same, b, q)) if kind in EVERY_MOMENT and (kind, a) == (same, b):
            return kind, a, ("both", p, q)
        case ("either", (kind, p, q), (same, s, r)) if kind in FOLLOWING and (kind, p) == (same, s):
            return kind, p, ("either", q, r)
    return None
