"""The interface as DOC.md lists it: names, arguments by places and by names, what may be left out, kinds of values."""

import importlib
import inspect
import itertools
import unittest

from helpers import GOOD, home, joins, leaves

PAGES = [joins(5, "hand"), home(6, 50, 3), ("fine", "ann", 7, 9), ("slops", "ann", 8, 100, "purser"), leaves(60), joins(2, "boy", "bob")]
TEXT = "boy=0/1,hand=30/1,mate=480/28 church*1,sick*3 28"
BOOK = {"articles": GOOD, "pages": PAGES}
MAN = {**BOOK, "man": "ann"}
DAY = {**MAN, "day": 8}
TWO = {"articles": GOOD, "one": PAGES, "other": PAGES[1:4], "man": "ann"}
# Module, function, arguments in their places, and what is told.
FUNCTIONS = (
    ("articles", "is_articles", {"thing": GOOD}, True),
    ("articles", "earns", {"articles": GOOD, "rank": "mate", "many": 7}, (120, 1)),
    ("pages", "is_page", {"articles": GOOD, "thing": PAGES[0]}, True),
    ("pages", "are_pages", {"articles": GOOD, "thing": PAGES}, True),
    ("pages", "men", BOOK, ["ann", "bob"]),
    ("turns", "faults", BOOK, []),
    ("turns", "on_books", MAN, [(5, 59)]),
    ("turns", "paid_days", MAN, [(5, 59, "hand")]),
    ("ledgers", "earned", DAY, (120, 1)),
    ("ledgers", "when_earned", {**MAN, "pence": 31}, 6),
    ("ledgers", "had", DAY, (0, 50, 100, 9)),
    ("ledgers", "sent_on", {**MAN, "day": 34}, 50),
    ("ledgers", "next_sent", DAY, 34),
    ("ledgers", "left", DAY, -39),
    ("rooms", "room", {**MAN, "day": 20}, 321),
    ("rooms", "first_over", MAN, (8, 39)),
    ("payoff", "paid_off", DAY, (0, 0, [("purser", 39)])),
    ("chests", "shared", {"articles": GOOD, "total": 7}, [("church", 2), ("sick", 5)]),
    ("chests", "chests_at", {**BOOK, "day": 7}, [("church", 2), ("sick", 7)]),
    ("unlike", "ranks_unlike", TWO, [(5, 59, "hand", "")]),
    ("unlike", "sums_unlike", TWO, [(6, 2, "home", 50, 0)]),
    ("unlike", "first_unlike", TWO, 5),
    ("texts", "page_text", {"page": PAGES[1]}, "home ann 6 50 3 kin"),
    ("texts", "articles_text", {"articles": GOOD}, TEXT),
    ("texts", "read_page", {"articles": GOOD, "text": "home ann 6 50 3 kin"}, PAGES[1]),
    ("texts", "read_articles", {"text": TEXT}, GOOD),
)
# Method, arguments in their places, and what is told, of a purser that has the pages.
METHODS = (
    ("enter", {"page": joins(70)}, None),
    ("strike", {"page": leaves(60)}, None),
    ("back", {}, None),
    ("send", {"man": "ann", "day": 20, "pence": 300, "whom": "aunt"}, 21),
    ("pages", {}, sorted(PAGES)),
    ("left", {"man": "ann", "day": 8}, -39),
    ("room", {"man": "ann", "day": 20}, 321),
    ("off", {"man": "ann", "day": 8}, (0, 0, [("purser", 39)])),
)
ERRORS = ("NoArticles NoPages NoPage NoRank NoSum NoMan Faulty TooMuch Twice TooMany NotThere NothingLeft NoText NoRow").split()


def found(module, name):
    return getattr(importlib.import_module("crewpay." + module), name)


def purser():
    made = found("pursers", "Purser")(GOOD)
    for page in PAGES:
        made.enter(page)
    return made


class Interface(unittest.TestCase):
    def is_told(self, told, wanted):
        self.assertEqual(told, wanted)
        self.assertIs(type(told), type(wanted))

    def test_functions_by_places_and_by_names(self):
        for module, name, given, wanted in FUNCTIONS:
            action = found(module, name)
            with self.subTest(name=name):
                self.assertEqual(list(inspect.signature(action).parameters), list(given))
                self.is_told(action(*given.values()), wanted)
                for names in itertools.permutations(given):
                    self.is_told(action(**{word: given[word] for word in names}), wanted)
                for many in range(len(given)):
                    self.is_told(action(*list(given.values())[:many], **dict(list(given.items())[many:])), wanted)

    def test_methods_by_places_and_by_names(self):
        for name, given, wanted in METHODS:
            with self.subTest(name=name):
                self.assertEqual(list(inspect.signature(getattr(purser(), name)).parameters), list(given))
                self.is_told(getattr(purser(), name)(*given.values()), wanted)
                for names in itertools.permutations(given):
                    self.is_told(getattr(purser(), name)(**{word: given[word] for word in names}), wanted)

    def test_join_and_desk(self):
        made = found("pursers", "Purser")
        self.is_told(made(GOOD).join(purser()), 6)
        self.is_told(made(articles=GOOD).join(other=purser()), 6)
        self.assertEqual(list(inspect.signature(made(GOOD).join).parameters), ["other"])
        desk = found("desk", "Desk")
        self.is_told(desk(TEXT).say("men"), "none")
        self.is_told(desk(text=TEXT).say(row="men"), "none")

    def test_what_may_be_left_out(self):
        earns = found("articles", "earns")
        self.assertEqual(earns(GOOD, "mate"), earns(GOOD, "mate", 1))
        self.assertEqual(earns(rank="mate", articles=GOOD), (120, 7))
        one, other = purser(), purser()
        self.assertEqual(one.send("ann", 20, 300), other.send(pence=300, day=20, man="ann", whom="kin"))
        self.assertEqual(one, other)
        self.assertIn(home(20, 300), one.pages())

    def test_methods_stand_in_the_class_itself(self):
        names = [name for name, given, wanted in METHODS] + ["join", "__len__", "__eq__", "__init__"]
        self.assertEqual([name for name in names if name not in vars(found("pursers", "Purser"))], [])
        self.assertEqual([name for name in ("say", "__init__") if name not in vars(found("desk", "Desk"))], [])

    def test_length_and_likeness(self):
        self.is_told(len(purser()), 6)
        self.is_told(purser() == purser(), True)
        self.is_told(purser() == 6, False)

    def test_refusals(self):
        above = found("errors", "WageError")
        self.assertEqual(above.__bases__, (ValueError,))
        for name in ERRORS:
            self.assertEqual(found("errors", name).__bases__, (above,))

    def test_values_are_not_shared_between_calls(self):
        for module, name, given, wanted in FUNCTIONS:
            if isinstance(wanted, list):
                action = found(module, name)
                action(**given).append("more")
                self.assertEqual(action(**given), wanted)


if __name__ == "__main__":
    unittest.main()
