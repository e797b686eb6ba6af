"""The kinds of questions, and the forms of the items that stand behind the kind."""

# The parts of a question always stand behind its other items.
ITEMS = {
    "fact": ("word", "terms"),
    "both": ("question", "question"),
    "either": ("question", "question"),
    "unless": ("question", "question"),
    "only": ("columns", "question"),
    "where": ("word", "term", "term", "question"),
    "shift": ("integer", "question"),
    "once": ("within", "question"),
    "lately": ("within", "question"),
    "soon": ("within", "question"),
    "henceforth": ("within", "question"),
    "since": ("question", "question"),
    "until": ("question", "question"),
    "sincenot": ("question", "question"),
    "untilnot": ("question", "question"),
    "count": ("word", "columns", "question"),
    "sum": ("word", "word", "columns", "question"),
    "least": ("word", "word", "columns", "question"),
    "most": ("word", "word", "columns", "question"),
    "linked": ("word", "word", "question"),
    "way": ("word", "word", "question"),
}

# Kinds that look at the moments within a bound: whether a row answers at some of them, or at each of them.
LOOKING = ("once", "lately", "soon", "henceforth")
SOME_MOMENT = ("once", "soon")
EVERY_MOMENT = ("lately", "henceforth")

# Kinds whose columns are those of Q, and in which P tells how long Q is followed.
FOLLOWING = ("since", "sincenot", "until", "untilnot")

# Kinds that find a value for each group of rows.
TOTALS = ("count", "sum", "least", "most")
