"""Deeds to try keepers with, and plain reckonings of what they tell."""

from askedthen.hashing import Hasher
from askedthen.keepers import Keeper
from askedthen.knowing import Knowledge
from plain_questions import NUMBERS, TEXTS
from samples import SHOP

HASHER = Hasher(2 ** 31 - 1, 1000003)
POINTS = [0, 1, 2, 5, 9, 10, 20, 9998, 9999, 10000]
ITEM, PRICE, TAG = ("table", "item"), ("table", "price"), ("table", "tag")
COUNTED, SUMMED = ("count", TAG, ()), ("sum", ITEM, (), "price")

# Questions that are bad, and why.
BAD = [((), "form"), (("table", "no"), "table"), (("keep", ITEM, ()), "column"), (("unite", ITEM, TAG), "columns"),
       (("pick", ITEM, "price", "=", True), "value"), (("name", ITEM, "name", "note"), "taken"),
       (("join", ITEM, ("name", TAG, "name", "price")), "kinds"), (("found", "item", "name", ()), "wish"), (None, "form"),
       (["table", "item"], "form")]

# The deeds of most tests: each word, with one that changes nothing.
DEEDS = [
    ("keep", "item", ("Old mill", 300, "old"), 0, 50),
    ("keep", "tag", ("Tea",), 10, 20),
    ("keep", "item", ("Tea", 20, "Old tea"), 10, 10000),
    ("keep", "tag", ("Tea",), 12, 15),
    ("drop", "item", ("Old mill", 300, "old"), 10, 20),
    ("keep", "price", (300,), 9999, 10000),
    ("clear", "item", 15, 30),
    ("drop", "tag", ("Tea",), 0, 10000),
]


def some_deeds(dice, many):
    """So many deeds of the shop; many days are the first or the last ones."""
    deeds = []
    for _ in range(many):
        row = {"item": (dice.choice(TEXTS), dice.choice(NUMBERS), dice.choice(TEXTS)), "price": (dice.choice(NUMBERS),),
               "tag": (dice.choice(TEXTS),)}
        table = dice.choice(["item", "item", "price", "tag"])
        start, stop = sorted(dice.sample(POINTS, 2))
        word = dice.choice(["keep"] * 8 + ["drop", "drop", "clear"])
        if word == "clear":
            deeds.append((word, table, start, stop))
        elif word == "drop" and deeds and dice.random() < 0.8:
            told = dice.choice([deed for deed in deeds if deed[0] != "clear"] or [("keep", "tag", ("a",), 0, 1)])
            deeds.append((word, told[1], told[2], start, stop))
        else:
            deeds.append((word, table, row[table], start, stop))
    return deeds


def keeper_of(deeds, hasher=HASHER, schema=SHOP):
    keeper = Keeper(schema, hasher)
    for deed in deeds:
        keeper.record(deed)
    return keeper


def known_behind(deeds, schema=SHOP):
    known = Knowledge(schema)
    for deed in deeds:
        known.apply(deed)
    return known
