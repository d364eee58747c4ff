"""Pursers: point 15."""

import copy
import random
import unittest

from crewpay.errors import (
    Faulty, NoArticles, NoMan, NoPage, NoSum, NothingLeft, NotThere, TooMany, TooMuch, Twice, WageError,
)
from crewpay.ledgers import left
from crewpay.payoff import paid_off
from crewpay.pursers import Purser
from crewpay.rooms import room
from helpers import (
    CHESTS, FAR, GOOD, MOST, away, great_book, home, in_orders, joins, leaves, random_book, ranked, small_things, swapped,
)

COOKS = ((("cook", 40, 1), ("mate", 480, 28)), CHESTS, 28)
PAGES = [joins(2), ranked(9), leaves(20), away(4, 6), home(3, 7, 5), ("advance", "ann", 0, 5, "owner"),
         ("slops", "ann", 8, 3, "purser"), ("fine", "ann", 25, 2), ("lost", 40, 35), joins(1, "hand", "bob")]


def fines(many, first=0):
    return [("fine", "zed", day, 1) for day in range(first, first + many)]


def purser_of(pages, articles=GOOD):
    purser = Purser(articles)
    for page in pages:
        purser.enter(page)
    return purser


class Checks(unittest.TestCase):
    def is_refused(self, refusal, purser, action, *given):
        """The action is refused with just this class, and changes nothing; the refusal."""
        before = purser.pages()
        with self.assertRaises(refusal) as caught:
            action(*given)
        self.assertIs(type(caught.exception), refusal)
        self.assertEqual(purser.pages(), before)
        self.assertEqual(len(purser), len(before))
        return caught.exception

    def has(self, purser, pages):
        self.assertEqual(purser.pages(), sorted(pages))
        self.assertEqual(len(purser), len(pages))


class Making(Checks):
    def test_no_pages_at_first(self):
        self.has(Purser(GOOD), [])

    def test_no_articles(self):
        for thing in small_things() + [list(GOOD), (GOOD[0], GOOD[1], 0)]:
            with self.assertRaises(NoArticles):
                Purser(thing)


class Entering(Checks):
    def test_pages_rising_in_whatever_order_they_came(self):
        for pages in in_orders(PAGES):
            purser = Purser(GOOD)
            for at, page in enumerate(pages):
                self.assertIsNone(purser.enter(page))
                self.has(purser, pages[:at + 1])

    def test_no_page_of_anything(self):
        purser = purser_of(PAGES)
        for thing in small_things() + [list(PAGES[0]), [PAGES[0]], joins(5, "cook"), ("lost", 5, 6), away(6, 5), GOOD]:
            self.is_refused(NoPage, purser, purser.enter, thing)
        for page in PAGES:
            for thing in swapped(page, None) + swapped(page, True) + swapped(page, []):
                self.is_refused(NoPage, purser, purser.enter, thing)

    def test_twice(self):
        purser = purser_of(PAGES)
        for page in PAGES:
            self.is_refused(Twice, purser, purser.enter, copy.deepcopy(page))
        purser.strike(PAGES[0])
        purser.enter(PAGES[0])
        self.has(purser, PAGES)

    def test_two_hundred_and_one(self):
        purser = purser_of(fines(200))
        self.is_refused(TooMany, purser, purser.enter, PAGES[0])
        # A page that is there, and what is no page, are refused by that.
        self.is_refused(Twice, purser, purser.enter, ("fine", "zed", 7, 1))
        self.is_refused(NoPage, purser, purser.enter, ("fine", "zed", 7, 0))
        purser.strike(("fine", "zed", 7, 1))
        purser.enter(PAGES[0])
        self.assertEqual(len(purser), 200)
        self.is_refused(TooMany, purser, purser.enter, ("fine", "zed", 7, 1))

    def test_faulty_pages_are_entered(self):
        self.has(purser_of([leaves(5), joins(5), joins(6), ("lost", 1, 1), ("lost", 2, 1)]),
                 [leaves(5), joins(5), joins(6), ("lost", 1, 1), ("lost", 2, 1)])


class Striking(Checks):
    def test_each_page(self):
        for page in PAGES:
            purser = purser_of(PAGES)
            self.assertIsNone(purser.strike(page))
            self.has(purser, [other for other in PAGES if other != page])
            self.is_refused(NotThere, purser, purser.strike, page)

    def test_to_the_last(self):
        purser = purser_of(PAGES)
        for at, page in enumerate(PAGES):
            purser.strike(page)
            self.has(purser, PAGES[at + 1:])

    def test_not_there(self):
        for purser in (Purser(GOOD), purser_of(PAGES)):
            for page in (joins(3), joins(2, "hand"), home(3, 7, 6), ("fine", "ann", 25, 3), joins(2, "cook"), joins(2, "mate", "bob")):
                self.is_refused(NotThere, purser, purser.strike, page)

    def test_what_is_only_like_a_page(self):
        purser = purser_of([("fine", "ann", 1, 1), home(1, 1)])
        for thing in (("fine", "ann", True, 1), ("fine", "ann", 1, True), ["fine", "ann", 1, 1], None, [], home(1, 1, True)):
            self.is_refused(NotThere, purser, purser.strike, thing)


class Sending(Checks):
    def test_the_room_behind_it(self):
        purser = purser_of([joins(5, "hand")])
        self.assertEqual(purser.send("ann", 8, 50), 70)
        self.has(purser, [joins(5, "hand"), home(8, 50)])
        self.assertEqual(purser.send("ann", 8, 69, "aunt"), 1)
        self.assertEqual(purser.send("ann", 9, 31, whom="aunt"), 0)
        self.has(purser, [joins(5, "hand"), home(8, 50), home(8, 69, 1, "aunt"), home(9, 31, 1, "aunt")])
        self.assertEqual(purser.room("ann", 8), 0)

    def test_just_the_room_and_a_penny_more(self):
        for pages in ([joins(5, "hand")], [joins(5, "hand"), home(12, 100, 3)], [joins(5), ("slops", "ann", 11, 60, "kin")]):
            purser = purser_of(pages)
            most = room(GOOD, pages, "ann", 10)
            self.assertGreater(most, 0)
            self.assertEqual(self.is_refused(TooMuch, purser, purser.send, "ann", 10, most + 1).most, most)
            self.assertEqual(self.is_refused(TooMuch, purser, purser.send, "ann", 10, 10 ** 9).most, most)
            self.assertEqual(purser.send("ann", 10, most), 0)
            self.has(purser, pages + [home(10, most)])
            self.assertEqual(self.is_refused(TooMuch, purser, purser.send, "ann", 10, 1).most, 0)

    def test_no_room(self):
        purser = purser_of([joins(5, "hand"), leaves(9), ("lost", 7, 7)])
        for day in (0, 4, 8, 9, FAR):
            self.assertEqual(self.is_refused(TooMuch, purser, purser.send, "ann", day, 1).most, 0)
        self.assertEqual(purser.send("ann", 7, 1), 89)

    def test_no_man(self):
        purser = purser_of([*PAGES, leaves(3, "cid")])
        for man in ("zed", "", "kin", "an", "Ann", "x" * 4000):
            self.is_refused(NoMan, purser, purser.send, man, 5, 1)
            self.is_refused(NoMan, purser, purser.send, man, -1, 0, "")
        self.is_refused(NoMan, Purser(GOOD), Purser(GOOD).send, "ann", 5, 1)

    def test_faulty_behind_no_man(self):
        purser = purser_of([*PAGES, leaves(3, "cid")])
        for given in (("cid", 5, 1), ("cid", -1, 0, "")):
            self.assertEqual(self.is_refused(Faulty, purser, purser.send, *given).faults, (("cid", 3, "turn"),))
        purser.enter(("lost", 41, 5))
        refusal = self.is_refused(Faulty, purser, purser.send, "ann", 5, 10 ** 10)
        self.assertEqual(refusal.faults, (("", 40, "lost"), ("", 41, "lost")))

    def test_no_sum_behind_faulty(self):
        purser = purser_of([joins(0, "hand")])
        for day in (-1, -MOST, FAR + 1, MOST):
            self.is_refused(NoSum, purser, purser.send, "ann", day, 1)
            self.is_refused(NoSum, purser, purser.send, "ann", day, 10 ** 9)
        for pence in (0, -1, -MOST, 10 ** 9 + 1, MOST):
            self.is_refused(NoSum, purser, purser.send, "ann", 5, pence)
        for bearer in ("", "Kin", "k1n", "abcdefghi", "kin ", "a\n", "-", "x" * 4000):
            self.is_refused(NoSum, purser, purser.send, "ann", 5, 1, bearer)
            self.is_refused(NoSum, purser, purser.send, "ann", 5, 10 ** 9, bearer)

    def test_the_bounds_of_days_and_pence(self):
        rich = ((("rich", 10 ** 9, 1),), CHESTS, 28)
        purser = purser_of([joins(0, "rich")], rich)
        self.assertEqual(purser.send("ann", FAR, 10 ** 9), 10 ** 9 * FAR)
        self.assertEqual(purser.send("ann", 0, 10 ** 9, "abcdefgh"), 0)
        self.assertEqual(self.is_refused(TooMuch, purser, purser.send, "ann", 0, 1, "a").most, 0)
        self.assertEqual(purser.send("ann", 1, 1, "a"), 10 ** 9 - 1)

    def test_too_much_ahead_of_twice_and_too_many(self):
        purser = purser_of([joins(5, "hand"), home(6, 20)])
        self.is_refused(Twice, purser, purser.send, "ann", 6, 20)
        self.is_refused(Twice, purser, purser.send, "ann", 6, 20, "kin")
        self.assertEqual(purser.send("ann", 6, 20, "aunt"), 20)
        self.assertEqual(purser.send("ann", 6, 19), 1)
        self.assertEqual(self.is_refused(TooMuch, purser, purser.send, "ann", 6, 20).most, 1)

    def test_twice_is_of_the_page_alone(self):
        # One of two times is another page.
        purser = purser_of([joins(5, "hand"), home(6, 20, 2)])
        self.assertEqual(purser.send("ann", 6, 20), 20)

    def test_too_many_last(self):
        purser = purser_of([joins(5, "hand"), home(6, 20), *fines(198)])
        self.is_refused(TooMany, purser, purser.send, "ann", 6, 19)
        self.is_refused(Twice, purser, purser.send, "ann", 6, 20)
        self.assertEqual(self.is_refused(TooMuch, purser, purser.send, "ann", 6, 41).most, 40)
        self.is_refused(NoSum, purser, purser.send, "ann", 6, 0)
        purser.strike(fines(1)[0])
        self.assertEqual(purser.send("ann", 6, 19), 21)

    def test_arguments_by_name(self):
        purser = purser_of([joins(5, "hand")])
        self.assertEqual(purser.send(whom="aunt", pence=10, day=5, man="ann"), 20)
        self.assertEqual(purser.send(pence=10, day=5, man="ann"), 10)
        self.has(purser, [joins(5, "hand"), home(5, 10, 1, "aunt"), home(5, 10)])


class Joining(Checks):
    def test_none_some_and_all(self):
        for own, others, wanted in ((PAGES, [], 0), (PAGES, PAGES, 0), (PAGES, PAGES[:4], 0), (PAGES[:4], PAGES, 6), ([], PAGES, 10),
                                    (PAGES[:4], PAGES[4:], 6), (PAGES[:6], PAGES[3:], 4), ([], [], 0)):
            one, other = purser_of(own), purser_of(others)
            self.assertEqual(one.join(other), wanted)
            self.has(one, list(set(own + others)))
            self.has(other, others)

    def test_too_many(self):
        one = purser_of(fines(150))
        self.is_refused(TooMany, one, one.join, purser_of(fines(51, 150)))
        self.is_refused(TooMany, one, one.join, purser_of(fines(151, 50)))
        self.assertEqual(one.join(purser_of(fines(50, 150))), 50)
        self.has(one, fines(200))
        self.assertEqual(one.join(purser_of(fines(60, 100))), 0)
        self.is_refused(TooMany, one, one.join, purser_of(fines(1, 200)))

    def test_no_page_ahead_of_too_many(self):
        one = purser_of(fines(150))
        other = purser_of([*fines(100, 150), joins(5, "cook", "zed")], COOKS)
        self.is_refused(NoPage, one, one.join, other)
        other.strike(joins(5, "cook", "zed"))
        self.is_refused(TooMany, one, one.join, other)

    def test_other_articles(self):
        one, other = purser_of([joins(2)]), purser_of([joins(2), joins(5, "mate", "bob"), home(5, 7)], COOKS)
        self.assertEqual(one.join(other), 2)
        self.has(one, [joins(2), joins(5, "mate", "bob"), home(5, 7)])
        other.enter(ranked(9, "cook"))
        self.is_refused(NoPage, one, one.join, other)

    def test_itself(self):
        purser = purser_of(PAGES)
        self.assertEqual(purser.join(purser), 0)
        self.has(purser, PAGES)
        purser.back()
        self.has(purser, PAGES)
        purser.back()
        self.has(purser, PAGES[:-1])

    def test_what_is_done_later_stays_with_each(self):
        one, other = purser_of(PAGES[:5]), purser_of(PAGES[3:])
        one.join(other)
        other.strike(PAGES[-1])
        self.has(one, PAGES)
        one.strike(PAGES[4])
        one.enter(joins(77, "boy", "cid"))
        self.has(other, PAGES[3:-1])
        one.back()
        one.back()
        one.back()
        self.has(one, PAGES[:5])
        self.has(other, PAGES[3:-1])

    def test_argument_by_name(self):
        self.assertEqual(purser_of(PAGES[:4]).join(other=purser_of(PAGES)), 6)


class TakingBack(Checks):
    def test_nothing_left(self):
        purser = Purser(GOOD)
        self.is_refused(NothingLeft, purser, purser.back)
        purser.enter(PAGES[0])
        self.assertIsNone(purser.back())
        self.has(purser, [])
        self.is_refused(NothingLeft, purser, purser.back)
        self.is_refused(NothingLeft, purser, purser.back)

    def test_each_kind_of_deed(self):
        purser = purser_of([joins(5, "hand"), home(6, 7)])
        books = [purser.pages()]
        deeds = ((purser.enter, (away(7, 8),)), (purser.strike, (home(6, 7),)), (purser.send, ("ann", 12, 9)),
                 (purser.join, (purser_of(PAGES[3:]),)), (purser.join, (Purser(GOOD),)), (purser.strike, (joins(5, "hand"),)))
        for action, given in deeds:
            action(*given)
            books.append(purser.pages())
        for book in books[::-1][1:]:
            purser.back()
            self.has(purser, book)
        purser.back()
        purser.back()
        self.is_refused(NothingLeft, purser, purser.back)

    def test_a_join_that_brings_none_is_a_deed(self):
        purser = purser_of(PAGES[:2])
        purser.join(Purser(GOOD))
        purser.back()
        self.has(purser, PAGES[:2])
        purser.back()
        self.has(purser, PAGES[:1])

    def test_what_is_refused_is_no_deed(self):
        purser = purser_of([joins(5, "hand"), home(6, 7)])
        for action, given in ((purser.enter, (None,)), (purser.enter, (home(6, 7),)), (purser.strike, (home(6, 8),)),
                              (purser.send, ("ann", 6, 1000)), (purser.send, ("zed", 6, 1)), (purser.send, ("ann", 6, 0)),
                              (purser.send, ("ann", 6, 7)), (purser.join, (purser_of([joins(5, "cook")], COOKS),)),
                              (purser.join, (purser_of(fines(199)),)), (purser.left, ("zed", 5)), (purser.off, ("zed", 5))):
            with self.assertRaises(WageError):
                action(*given)
        purser.back()
        self.has(purser, [joins(5, "hand")])

    def test_what_is_told_is_no_deed(self):
        purser = purser_of([joins(5, "hand"), home(6, 7)])
        purser.pages(), purser.left("ann", 5), purser.room("ann", 5), purser.off("ann", 5), len(purser), purser == purser
        purser.back()
        self.has(purser, [joins(5, "hand")])

    def test_what_was_taken_back_was_never_done(self):
        purser, other = purser_of(PAGES), purser_of(PAGES)
        purser.strike(PAGES[0])
        purser.back()
        self.is_refused(Twice, purser, purser.enter, PAGES[0])
        self.assertEqual(purser, other)
        for day in (0, 5, 9, 30):
            self.assertEqual((purser.left("ann", day), purser.off("ann", day)), (other.left("ann", day), other.off("ann", day)))
        purser.enter(away(15, 16))
        purser.back()
        self.is_refused(NotThere, purser, purser.strike, away(15, 16))
        # And done anew it is done.
        purser.enter(away(15, 16))
        self.has(purser, PAGES + [away(15, 16)])

    def test_many_hundreds_of_deeds(self):
        chance = random.Random(3)
        purser, books = Purser(GOOD), [[]]
        for at in range(900):
            page = ("fine", "zed", chance.randint(0, 30), 1)
            purser.strike(page) if page in purser.pages() else purser.enter(page)
            books.append(purser.pages())
            if chance.random() < 0.2:
                purser.back()
                books.pop()
                self.has(purser, books[-1])
        self.assertGreater(len(books), 400)
        while len(books) > 1:
            books.pop()
            purser.back()
            self.has(purser, books[-1])
        self.is_refused(NothingLeft, purser, purser.back)


class Telling(Checks):
    def test_as_the_functions_tell(self):
        for seed in range(30):
            articles, pages = random_book(seed)
            purser = purser_of(pages, articles)
            for man in ("ann", "bob", "lost", "zed"):
                for day in (-1, 0, 7, 19, 33, 200):
                    for action, function in ((purser.left, left), (purser.room, room), (purser.off, paid_off)):
                        try:
                            wanted = function(articles, pages, man, day)
                        except WageError as refusal:
                            caught = self.is_refused(type(refusal), purser, action, man, day)
                            self.assertEqual(getattr(caught, "faults", None), getattr(refusal, "faults", None))
                        else:
                            self.assertEqual(action(man, day), wanted)

    def test_two_hundred_pages(self):
        articles, pages = great_book(5)
        purser = purser_of(pages, articles)
        for day in (0, 100, 250, 390, 600):
            self.assertEqual(purser.room("ann", day), room(articles, pages, "ann", day))
            self.assertEqual(purser.off("ann", day), paid_off(articles, pages, "ann", day))

    def test_refusals_in_order(self):
        purser = purser_of([leaves(5), joins(1, "boy", "bob")])
        for action in (purser.left, purser.room, purser.off):
            self.is_refused(NoMan, purser, action, "zed", 5)
            self.assertEqual(self.is_refused(Faulty, purser, action, "ann", 5).faults, (("ann", 5, "turn"),))

    def test_arguments_by_name(self):
        purser = Purser(articles=GOOD)
        purser.enter(page=joins(5, "hand"))
        purser.enter(page=joins(6, "hand"))
        purser.strike(page=joins(6, "hand"))
        self.assertEqual((purser.left(day=5, man="ann"), purser.room(day=6, man="ann"), purser.off(day=7, man="ann")), (30, 60, (90, 0, [])))

    def test_lists_are_the_askers_own(self):
        purser = purser_of(PAGES)
        first, other = purser.pages(), purser.pages()
        first.clear()
        self.assertEqual(other, sorted(PAGES))
        other.append(joins(77))
        other[0] = None
        self.has(purser, PAGES)
        purser.enter(joins(77))
        self.assertEqual(len(other), 11)
        kept = purser.pages()
        purser.back()
        self.assertEqual(len(kept), 11)
        kept.reverse()
        self.has(purser, PAGES)
        told = purser_of([("slops", "ann", 5, 7, "kin")])
        borne = told.off("ann", 5)[2]
        borne.clear()
        self.assertEqual(told.off("ann", 5), (0, 0, [("kin", 7)]))

    def test_a_list_told_ahead_of_a_deed_is_not_the_past(self):
        purser = Purser(GOOD)
        told = purser.pages()
        told.append(None)
        purser.enter(PAGES[0])
        purser.pages().append(None)
        purser.enter(PAGES[1])
        purser.back()
        self.has(purser, PAGES[:1])
        purser.back()
        self.has(purser, [])


class Likeness(unittest.TestCase):
    def are_same(self, one, other):
        self.assertTrue(one == other and other == one)
        self.assertFalse(one != other or other != one)

    def are_unlike(self, one, other):
        self.assertFalse(one == other or other == one)
        self.assertTrue(one != other and other != one)

    def test_the_same_articles_and_pages(self):
        self.are_same(Purser(GOOD), Purser(copy.deepcopy(GOOD)))
        for pages in in_orders(PAGES):
            self.are_same(purser_of(PAGES), purser_of(pages))

    def test_whatever_was_done(self):
        one, other = purser_of(PAGES), purser_of(PAGES[::-1])
        one.enter(joins(77))
        self.are_unlike(one, other)
        one.strike(joins(77))
        self.are_same(one, other)
        other.strike(PAGES[0])
        other.back()
        self.are_same(one, other)
        one.back()
        one.back()
        self.are_same(one, other)
        joined = Purser(GOOD)
        joined.join(one)
        self.are_same(joined, other)
        empty = purser_of(PAGES[:1])
        empty.back()
        self.are_same(empty, Purser(GOOD))

    def test_other_pages_and_articles(self):
        self.are_unlike(purser_of(PAGES), purser_of(PAGES[1:]))
        self.are_unlike(purser_of(PAGES[:1]), purser_of(PAGES[1:2]))
        self.are_unlike(Purser(GOOD), Purser(COOKS))
        self.are_unlike(Purser(GOOD), Purser(GOOD[:2] + (27,)))
        self.are_unlike(purser_of([joins(2)]), purser_of([joins(2)], COOKS))

    def test_nothing_else(self):
        purser = purser_of(PAGES)
        for thing in small_things() + [sorted(PAGES), purser.pages(), tuple(PAGES), GOOD, object(), Purser, (GOOD, sorted(PAGES))]:
            self.are_unlike(purser, thing)
        for thing in (None, [], 0, "", (), False):
            self.are_unlike(Purser(GOOD), thing)


class TwoPursers(Checks):
    def test_they_do_not_change_one_another(self):
        one, other = Purser(GOOD), Purser(GOOD)
        one.enter(PAGES[0])
        self.has(other, [])
        self.is_refused(NothingLeft, other, other.back)
        other.enter(PAGES[1])
        one.back()
        self.has(other, PAGES[1:2])


if __name__ == "__main__":
    unittest.main()
