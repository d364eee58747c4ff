"""Pages: point 5, and of point 2 what they need."""

import copy
import re
import unittest

from crewpay.errors import NoArticles, NoPages
from crewpay.pages import are_pages, is_page, men
from helpers import CHESTS, GOOD, in_orders, is_number, nested, small_things, swapped

# A page of each kind, and the kinds of the parts behind its word.
SAMPLES = {
    ("joins", "ann", 5, "mate"): ("name", "day", "rank"),
    ("ranked", "ann", 5, "mate"): ("name", "day", "rank"),
    ("leaves", "ann", 5): ("name", "day"),
    ("away", "ann", 5, 9): ("name", "first", "last"),
    ("advance", "ann", 5, 100, "owner"): ("name", "day", "pence", "name"),
    ("slops", "ann", 5, 100, "purser"): ("name", "day", "pence", "name"),
    ("fine", "ann", 5, 100): ("name", "day", "pence"),
    ("home", "ann", 5, 100, 12, "kin"): ("name", "day", "pence", "times", "name"),
    ("lost", 9, 5): ("last", "first"),
}
NO_NUMBERS = [True, False, None, "", "5", "ann", "mate", (), (5,), [], [5], -1, -(10 ** 12), 10 ** 20]
RIGHT = {
    "name": ["a", "z", "ann", "abcdefgh", "zzzzzzzz", "lost", "mate", "kin"],
    "rank": ["boy", "hand", "mate"],
    "day": [0, 1, 10 ** 12 - 1, 10 ** 12],
    "first": [0, 1, 4, 5, 6, 7, 8, 9],
    "last": [5, 6, 7, 8, 9, 10, 10 ** 12 - 1, 10 ** 12],
    "pence": [1, 2, 10 ** 9 - 1, 10 ** 9],
    "times": [1, 2, 10 ** 6 - 1, 10 ** 6],
}
WRONG = {
    "name": ["", "abcdefghi", "x" * 4000, "Ann", "ANN", "an n", "ann ", " ann", "ann\n", "an1", "an-n", "\u00e9", "\u00df",
             0, 5, True, False, None, (), [], ("ann",), ["ann"], ("a", "n"), ["a", "n"]],
    "rank": ["", "cook", "mat", "mates", "Mate", "mate ", "mate\n", "sick", "church", "ann", "x" * 4000,
             0, 480, True, False, None, (), [], ("mate",), ["mate"], ("mate", 480, 28)],
    "day": NO_NUMBERS + [10 ** 12 + 1],
    "first": NO_NUMBERS + [10, 11, 10 ** 12 + 1],
    "last": NO_NUMBERS + [0, 4, 10 ** 12 + 1],
    "pence": NO_NUMBERS + [0, 10 ** 9 + 1, 10 ** 12],
    "times": NO_NUMBERS + [0, 10 ** 6 + 1, 10 ** 9],
}


def with_part(page, at, part):
    return page[:at] + (part,) + page[at + 1:]


def is_name(thing):
    return type(thing) is str and re.fullmatch("[a-z]{1,8}", thing) is not None


def by_the_words(articles, thing):
    """Of pages said once more, in another way than the program says it."""
    if type(thing) is not tuple or len(thing) < 3 or type(thing[0]) is not str:
        return False
    if thing[0] == "lost":
        return len(thing) == 3 and is_number(thing[1], 0, 10 ** 12) and is_number(thing[2], 0, thing[1])
    if not is_name(thing[1]) or not is_number(thing[2], 0, 10 ** 12):
        return False
    word, rest = thing[0], thing[3:]
    ranked = len(rest) == 1 and rest[0] in [rank for rank, pence, days in articles[0]]
    paid = len(rest) > 0 and is_number(rest[0], 1, 10 ** 9)
    return {
        "joins": ranked,
        "ranked": ranked,
        "leaves": rest == (),
        "away": len(rest) == 1 and is_number(rest[0], thing[2], 10 ** 12),
        "advance": paid and len(rest) == 2 and is_name(rest[1]),
        "slops": paid and len(rest) == 2 and is_name(rest[1]),
        "fine": paid and len(rest) == 1,
        "home": paid and len(rest) == 3 and is_number(rest[1], 1, 10 ** 6) and is_name(rest[2]),
    }.get(word, False)


class OnePage(unittest.TestCase):
    def is_told(self, wanted, thing, articles=GOOD):
        with self.subTest(thing=thing):
            before = copy.deepcopy(thing)
            self.assertIs(is_page(articles, thing), wanted)
            self.assertIs(is_page(thing=thing, articles=articles), wanted)
            self.assertEqual(thing, before)

    def test_ordinary(self):
        self.assertEqual(len(SAMPLES), 9)
        for page in SAMPLES:
            self.is_told(True, page)

    def test_each_part_at_its_bounds(self):
        for page, kinds in SAMPLES.items():
            for at, kind in enumerate(kinds, start=1):
                for part in RIGHT[kind]:
                    self.is_told(True, with_part(page, at, part))

    def test_each_part_beyond_its_bounds(self):
        for page, kinds in SAMPLES.items():
            for at, kind in enumerate(kinds, start=1):
                for part in WRONG[kind]:
                    self.is_told(False, with_part(page, at, part))

    def test_first_and_last_days_away(self):
        most = 10 ** 12
        for first, last in ((0, 0), (0, most), (most, most), (5, 5), (5, 6)):
            self.is_told(True, ("away", "ann", first, last))
        for first, last in ((1, 0), (most, most - 1), (6, 5), (-1, 5), (-2, -1), (most, most + 1), (most + 1, most + 1)):
            self.is_told(False, ("away", "ann", first, last))

    def test_days_of_a_lost_ship(self):
        most = 10 ** 12
        for day, to in ((0, 0), (most, 0), (most, most), (5, 5), (5, 4)):
            self.is_told(True, ("lost", day, to))
        for day, to in ((0, 1), (most - 1, most), (5, 6), (5, -1), (-1, -2), (-1, -1), (most + 1, 5), (most + 1, most + 1)):
            self.is_told(False, ("lost", day, to))

    def test_ranks_of_other_articles(self):
        other = ((("cook", 40, 1), ("mates", 1, 1)), CHESTS, 28)
        for word in ("joins", "ranked"):
            for rank in ("boy", "hand", "mate"):
                self.is_told(True, (word, "ann", 5, rank))
                self.is_told(False, (word, "ann", 5, rank), other)
            for rank in ("cook", "mates"):
                self.is_told(False, (word, "ann", 5, rank))
                self.is_told(True, (word, "ann", 5, rank), other)

    def test_all_else_is_a_page_of_any_articles(self):
        for page in SAMPLES:
            self.is_told(page[0] not in ("joins", "ranked"), page, ((("cook", 40, 1),), (("church", 1),), 1))

    def test_other_words(self):
        words = [sample[0] for sample in SAMPLES]
        for page in SAMPLES:
            strange = ["", "join", "Joins", "JOINS", "left", "slop", page[0] + " ", " " + page[0], page[0] + "s", page[0].upper()]
            for word in strange + [None, 0, True, (), [], (page[0],), [page[0]]]:
                self.is_told(False, with_part(page, 0, word))
            for word in words:
                thing = with_part(page, 0, word)
                self.is_told(by_the_words(GOOD, thing), thing)

    def test_a_part_more_or_fewer(self):
        for page in SAMPLES:
            for more in (0, 5, "ann", "kin", "mate", None, (), page):
                for thing in (page + (more,), (more,) + page, page[:1] + (more,) + page[1:]):
                    self.is_told(by_the_words(GOOD, thing), thing)
            for at in range(len(page)):
                thing = page[:at] + page[at + 1:]
                self.is_told(by_the_words(GOOD, thing), thing)
            self.is_told(False, page + page)
            self.is_told(False, page[:1])
            self.is_told(False, page + (page[-1], page[-1], page[-1], page[-1]))
        self.is_told(False, ("leaves", "ann", 5, "mate"))
        self.is_told(False, ("joins", "ann", 5))
        self.is_told(False, ("lost", "ann", 9, 5))
        self.is_told(False, ("lost", 9))

    def test_a_list_for_a_tuple(self):
        for page in SAMPLES:
            self.is_told(False, list(page))
            self.is_told(False, [page])
            self.is_told(False, (page,))
            self.is_told(False, " ".join(str(part) for part in page))

    def test_anything(self):
        for thing in small_things():
            self.is_told(by_the_words(GOOD, thing), thing)

    def test_anything_within_a_page(self):
        things = small_things() + [nested(kind, 10, page) for kind in (list, tuple) for page in SAMPLES]
        told = {True: 0, False: 0}
        for strange in things:
            for page in SAMPLES:
                for thing in swapped(page, strange):
                    wanted = by_the_words(GOOD, thing)
                    self.assertIs(is_page(GOOD, thing), wanted, thing)
                    told[wanted] += 1
        self.assertGreater(min(told.values()), 0)

    def test_no_articles(self):
        for articles in small_things() + [list(GOOD), GOOD + (1,), (GOOD[0], GOOD[1], 0), (GOOD[0], (), 28)]:
            for thing in (("joins", "ann", 5, "mate"), ("leaves", "ann", 5), ("lost", 9, 5), (), None, "page"):
                with self.subTest(articles=articles, thing=thing), self.assertRaises(NoArticles):
                    is_page(articles, thing)


def many_pages(many):
    return [("fine", "ann", day, 1) for day in range(many)]


class ManyPages(unittest.TestCase):
    def is_told(self, wanted, thing, articles=GOOD):
        with self.subTest(thing=thing):
            before = copy.deepcopy(thing)
            self.assertIs(are_pages(articles, thing), wanted)
            self.assertIs(are_pages(thing=thing, articles=articles), wanted)
            self.assertEqual(thing, before)

    def test_ordinary(self):
        for pages in in_orders(list(SAMPLES)):
            self.is_told(True, pages)
        for page in SAMPLES:
            self.is_told(True, [page])

    def test_none(self):
        self.is_told(True, [])

    def test_how_many(self):
        for many in (1, 2, 199, 200):
            self.is_told(True, many_pages(many))
        for many in (201, 202, 1000):
            self.is_told(False, many_pages(many))

    def test_a_page_twice(self):
        for page in SAMPLES:
            self.is_told(False, [page, page])
            self.is_told(False, [page, tuple(list(page))])
            self.is_told(False, list(SAMPLES) + [page])
            self.is_told(False, [page] + list(SAMPLES))
        self.is_told(False, many_pages(199) + [("fine", "ann", 0, 1)])
        self.is_told(False, many_pages(200) + [("fine", "ann", 0, 1)])

    def test_pages_that_are_nearly_alike(self):
        self.is_told(True, [("fine", "ann", 5, 1), ("fine", "ann", 5, 2), ("fine", "ann", 6, 1), ("fine", "bob", 5, 1)])
        self.is_told(True, [("slops", "ann", 5, 1, "kin"), ("slops", "ann", 5, 1, "purser"), ("advance", "ann", 5, 1, "kin")])
        self.is_told(True, [("lost", 9, 5), ("lost", 9, 6), ("lost", 10, 5)])
        self.is_told(True, [("joins", "ann", 5, "mate"), ("joins", "ann", 5, "hand"), ("ranked", "ann", 5, "mate")])

    def test_one_that_is_no_page(self):
        for strange in ([], (), None, 0, True, "leaves ann 5", ["leaves", "ann", 5], ("leaves", "ann", True), ("lost", 5, 6),
                        ("joins", "ann", 5, "cook"), [[]], ([],), ("leaves", ["ann"], 5)):
            self.is_told(False, [strange])
            self.is_told(False, [strange, strange])
            for at in (0, 100, 199):
                pages = many_pages(199)
                pages.insert(at, strange)
                self.is_told(False, pages)

    def test_no_list(self):
        self.is_told(False, tuple(SAMPLES))
        self.is_told(False, tuple(many_pages(200)))
        self.is_told(False, ())
        self.is_told(False, ("leaves", "ann", 5))
        self.is_told(False, [list(SAMPLES)])
        self.is_told(False, "")
        self.is_told(False, None)

    def test_ranks_of_other_articles(self):
        self.is_told(False, list(SAMPLES), ((("cook", 40, 1),), CHESTS, 28))
        self.is_told(True, [("joins", "ann", 5, "cook")], ((("cook", 40, 1),), CHESTS, 28))

    def test_anything(self):
        for thing in small_things():
            self.is_told(thing == [] and type(thing) is list, thing)

    def test_no_articles(self):
        for articles in small_things() + [list(GOOD), GOOD + (1,), (GOOD[0], GOOD[1], 0)]:
            for thing in (list(SAMPLES), [], None, tuple(SAMPLES)):
                with self.subTest(articles=articles, thing=thing), self.assertRaises(NoArticles):
                    are_pages(articles, thing)


class Men(unittest.TestCase):
    def test_none(self):
        self.assertEqual(men(GOOD, []), [])

    def test_from_pages_of_every_kind(self):
        for page in SAMPLES:
            with self.subTest(page):
                self.assertEqual(men(GOOD, [page]), [] if page[0] == "lost" else ["ann"])

    def test_each_once(self):
        self.assertEqual(men(GOOD, list(SAMPLES)), ["ann"])

    def test_rising(self):
        names = ["zed", "ann", "annie", "b", "bob", "lost", "joins", "kin", "aa", "abcdefgh"]
        pages = [(word[0], name) + word[2:] for name in names for word in SAMPLES if word[0] != "lost"]
        for book in in_orders(pages) + in_orders(pages[:40] + [("lost", 9, 5)]):
            told = men(GOOD, book)
            self.assertIs(type(told), list)
            self.assertEqual(told, sorted({page[1] for page in book if page[0] != "lost"}))
        self.assertEqual(men(articles=GOOD, pages=pages), sorted(names))

    def test_the_ship_and_bearers_are_no_men(self):
        pages = [("lost", 9, 5), ("lost", 8, 5), ("home", "bob", 5, 1, 1, "kin"), ("slops", "ann", 5, 1, "purser")]
        self.assertEqual(men(GOOD, pages), ["ann", "bob"])

    def test_men_with_faults_too(self):
        self.assertEqual(men(GOOD, [("leaves", "ann", 5), ("lost", 9, 5), ("lost", 8, 5)]), ["ann"])

    def test_two_hundred(self):
        pages = [("fine", first + second, 5, 1) for first in "abcdefghij" for second in "abcdefghijklmnopqrst"]
        self.assertEqual(men(GOOD, pages[::-1]), [page[1] for page in pages])

    def test_refused(self):
        for thing in small_things():
            if thing != []:
                with self.subTest(thing), self.assertRaises(NoPages):
                    men(GOOD, thing)
            with self.subTest(thing), self.assertRaises(NoArticles):
                men(thing, thing)
            with self.subTest(thing), self.assertRaises(NoArticles):
                men(thing, list(SAMPLES))


if __name__ == "__main__":
    unittest.main()
