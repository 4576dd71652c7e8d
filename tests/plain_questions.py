"""Plain reckonings of questions, straight from the document, and questions to try them with."""

from askedthen.octets import body, range_of, range_of_text
from samples import SHOP
from test_wishes import plainly_fulfils

BY_NAME = {"=": lambda one, other: one == other, "<>": lambda one, other: one != other,
           "<": lambda one, other: one < other, ">": lambda one, other: one > other}
PARTS = {"table": 0, "found": 0, "join": 2, "unite": 2, "less": 2}

TEXTS = ["", "a", "A b", "ab abc", "abc-B", "Old mill", "old", "7 a", "ba ab a", "mill a", "b b", "..."]
NUMBERS = [0, 2, 10]
WISHES = [("word", "a"), ("begins", "a"), ("none", ("word", "old")), ("all", (("begins", "a"), ("word", "b"))),
          ("any", (("word", "mill"), ("none", ("begins", "a")), ("word", "mill")))]
LAST_DAY = 9999


def parts_of(question):
    return question[1:1 + PARTS.get(question[0], 1)]


def plain_names(question, schema=SHOP):
    """The names of the columns of a question that is not bad, with their kinds, as a dict."""
    word = question[0]
    if word in ("table", "found"):
        return dict(dict(schema)[question[1]])
    first, *rest = [plain_names(part, schema) for part in parts_of(question)]
    if word == "keep":
        return {name: first[name] for name in question[2]}
    if word == "name":
        return {question[3] if name == question[2] else name: kind for name, kind in first.items()}
    if word == "join":
        return {**first, **{name: kind for name, kind in rest[0].items() if name not in first}}
    if word in ("count", "sum"):
        return {**{name: first[name] for name in question[2]}, word: "number"}
    return first


def plain_meaning(question, tables, schema=SHOP):
    """The set of rows that a question means; each row in between is a dict from the names of columns."""
    names = list(plain_names(question, schema))
    return {tuple(row[name] for name in names) for row in plain_dicts(question, tables, schema)}


def plain_dicts(question, tables, schema):
    """The list of the rows as dicts, each once."""
    word, *told = question
    if word in ("table", "found"):
        names = list(plain_names(question, schema))
        rows = [dict(zip(names, row)) for row in tables[told[0]]]
        return once(row for row in rows if word == "table" or plainly_fulfils(row[told[1]], told[2]))
    rows, *rest = [plain_dicts(part, tables, schema) for part in parts_of(question)]
    if word == "pick":
        return [row for row in rows if BY_NAME[told[2]](row[told[1]], told[3])]
    if word == "same":
        return [row for row in rows if row[told[1]] == row[told[2]]]
    if word == "keep":
        return once({name: row[name] for name in told[1]} for row in rows)
    if word == "name":
        return [{told[2] if name == told[1] else name: value for name, value in row.items()} for row in rows]
    if word == "join":
        return once({**row, **other} for row in rows for other in rest[0]
                    if all(row[name] == other[name] for name in row if name in other))
    if word == "unite":
        return once(rows + rest[0])
    if word == "less":
        return [row for row in rows if row not in rest[0]]
    return plain_groups(word, rows, *told[1:])


def plain_groups(word, rows, names, column=None):
    groups = once({name: row[name] for name in names} for row in rows) if names else [{}]
    found = []
    for group in groups:
        members = [row for row in rows if all(row[name] == group[name] for name in names)]
        total = len(members) if word == "count" else sum(row[column] for row in members)
        found.append({**group, word: total})
    return found


def once(rows):
    found = []
    for row in rows:
        if row not in found:
            found.append(row)
    return found


def plain_needs(question, schema=SHOP):
    """What a question needs."""
    found = []
    for asked in plain_ranges(question, schema):
        if asked not in found:
            found.append(asked)
    return found


def plain_ranges(question, schema):
    if question[0] == "found":
        return wish_ranges(question[3], question[1], question[2])
    picks = []
    below = question
    while below[0] == "pick":
        picks.insert(0, below)
        below = below[1]
    if below[0] == "table":
        values = ["t", below[1]]
        for name, _ in dict(schema)[below[1]]:
            told = [pick[4] for pick in picks if pick[2:4] == (name, "=")]
            if not told:
                break
            values.append(told[0])
        return [(body(values), body(values) + (3,))]
    return [asked for part in parts_of(question) for asked in plain_ranges(part, schema)]


def wish_ranges(wish, table, column):
    word, what = wish
    if word == "word":
        return [range_of(("w", table, column, what))]
    if word == "begins":
        return [range_of_text(("w", table, column), what)]
    parts = [what] if word == "none" else what
    ahead = [range_of(("t", table))] if word == "none" else []
    return ahead + [asked for part in parts for asked in wish_ranges(part, table, column)]


def some_question(dice, deep):
    """A question about the shop that is not bad."""
    while True:
        question = some_try(dice, deep)
        if question is not None:
            return question


def some_value(dice, kind):
    return dice.choice(TEXTS if kind == "text" else NUMBERS)


def some_pick(dice, part):
    names = plain_names(part)
    name = dice.choice(list(names))
    return ("pick", part, name, dice.choice(["=", "=", "<>", "<", ">"]), some_value(dice, names[name]))


def some_try(dice, deep):
    """A question, or None if the dice made a bad one."""
    if deep == 0 or dice.random() < 0.1:
        if dice.random() < 0.6:
            return ("table", dice.choice(["item", "item", "price", "tag"]))
        table, column = dice.choice([("item", "name"), ("item", "note"), ("tag", "name")])
        return ("found", table, column, dice.choice(WISHES))
    word = dice.choice(["pick", "pick", "pick", "same", "keep", "name", "join", "unite", "less", "count", "sum"])
    part = some_question(dice, deep - 1)
    names = plain_names(part)
    chosen = tuple(dice.sample(list(names), dice.randint(0, len(names))))
    numbers = [name for name, kind in names.items() if kind == "number"]
    if word == "pick":
        return some_pick(dice, part)
    if word == "same":
        name, other = dice.choice(list(names)), dice.choice(list(names))
        return (word, part, name, other) if names[name] == names[other] else None
    if word == "keep":
        return (word, part, chosen) if chosen else None
    if word == "name":
        old, new = dice.choice(list(names)), dice.choice(["new", "name", "price"])
        return (word, part, old, new) if new == old or new not in names else None
    if word == "join":
        other = some_question(dice, deep - 1)
        theirs = plain_names(other)
        alike = all(names[name] == theirs[name] for name in names if name in theirs)
        return (word, part, other) if alike and len(names) + len(theirs) < 9 else None
    if word in ("unite", "less"):
        other = some_question(dice, deep - 1)
        if list(plain_names(other).items()) != list(names.items()):
            other = some_pick(dice, part)
        return (word,) + tuple(dice.sample([part, other], 2))
    if word == "count":
        return (word, part, chosen) if "count" not in chosen else None
    if not numbers or "sum" in chosen:
        return None
    return (word, part, chosen, dice.choice(numbers))


def some_tables(dice, most=8):
    """The rows of each table of the shop on a day, in no order."""
    def rows(make):
        return list({make(): True for _ in range(dice.randint(0, most))})
    tables = {
        "item": rows(lambda: (dice.choice(TEXTS), dice.choice(NUMBERS), dice.choice(TEXTS))),
        "price": rows(lambda: (dice.choice(NUMBERS),)),
        "tag": rows(lambda: (dice.choice(TEXTS),)),
    }
    for rows_of_table in tables.values():
        dice.shuffle(rows_of_table)
    return tables
