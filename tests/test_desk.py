"""The desk: point 17."""

import random
import unittest

from crewpay.chests import chests_at
from crewpay.desk import Desk
from crewpay.errors import (
    Faulty, NoMan, NoRow, NoSum, NoText, NothingLeft, NotThere, TooMany, TooMuch, Twice, WageError,
)
from crewpay.ledgers import earned, had, left, next_sent
from crewpay.pages import men
from crewpay.payoff import paid_off
from crewpay.rooms import first_over, room
from crewpay.texts import articles_text, page_text
from crewpay.turns import faults, paid_days
from helpers import FAR, GOOD, great_book, random_book, small_things

TEXT = "boy=0/1,hand=30/1,mate=480/28 church*1,sick*3 28"
ROWS = ("joins ann 5 mate", "ranked ann 12 hand", "away ann 14 15", "leaves ann 20", "home ann 6 50 12 kin", "slops ann 8 10 purser",
        "fine ann 9 7", "advance ann 0 5 owner", "joins bob 3 boy")
# Rows that are well written, one of each first word, and how many words each has.
EACH = (("enter leaves bob 9", None), ("strike joins bob 3 boy", None), ("back", 1), ("send ann 9 1 kin", 5), ("pages", 1), ("men", 1),
        ("faults", 1), ("days ann", 2), ("earned ann 5", 3), ("had ann 5", 3), ("left ann 5", 3), ("room ann 5", 3), ("next ann 5", 3),
        ("over ann", 2), ("off ann 5", 3), ("chests 5", 2))
NUMBERS_NOT_SO_WRITTEN = ("", "05", "00", "-5", "+5", "5.", "x", "1_0", "\n5", "5\n", "10000000000000", "01000000000000", "\u0665", "5,", "--")


def desk_of(rows=ROWS, text=TEXT):
    desk = Desk(text)
    for row in rows:
        desk.say("enter " + row)
    return desk


class Checks(unittest.TestCase):
    def is_said(self, desk, row, wanted):
        with self.subTest(row=row):
            told = desk.say(row)
            self.assertEqual(told, wanted)
            self.assertIs(type(told), str)

    def is_refused(self, refusal, desk, row):
        """The row is refused with just this class, and changes nothing; the refusal."""
        before = desk.say("pages")
        with self.subTest(row=row):
            with self.assertRaises(refusal) as caught:
                desk.say(row)
            self.assertIs(type(caught.exception), refusal)
            self.assertEqual(desk.say("pages"), before)
        return caught.exception


class Answers(Checks):
    def test_enter_and_pages(self):
        desk = Desk(TEXT)
        self.is_said(desk, "pages", "none")
        self.is_said(desk, "enter joins ann 5 mate", "ok")
        self.is_said(desk, "pages", "joins ann 5 mate")
        self.is_said(desk, "enter home ann 5 100 12 kin", "ok")
        self.is_said(desk, "enter lost 50 40", "ok")
        self.is_said(desk, "pages", "home ann 5 100 12 kin / joins ann 5 mate / lost 50 40")

    def test_pages_rise_as_tuples_do(self):
        desk = desk_of(("leaves ann 10", "leaves ann 9", "leaves ann 100"))
        self.is_said(desk, "pages", "leaves ann 9 / leaves ann 10 / leaves ann 100")

    def test_strike_and_back(self):
        desk = desk_of(ROWS[:3])
        self.is_said(desk, "strike ranked ann 12 hand", "ok")
        self.is_said(desk, "pages", "away ann 14 15 / joins ann 5 mate")
        self.is_said(desk, "back", "ok")
        self.is_said(desk, "pages", "away ann 14 15 / joins ann 5 mate / ranked ann 12 hand")
        for at in range(3):
            self.is_said(desk, "back", "ok")
        self.is_said(desk, "pages", "none")
        self.is_refused(NothingLeft, desk, "back")

    def test_send(self):
        desk = desk_of(("joins ann 5 hand",))
        self.is_said(desk, "send ann 6 10 kin", "50")
        self.is_said(desk, "send ann 6 50 aunt", "0")
        self.is_said(desk, "pages", "home ann 6 10 1 kin / home ann 6 50 1 aunt / joins ann 5 hand")
        self.is_said(desk, "back", "ok")
        self.is_said(desk, "room ann 6", "50")
        self.assertEqual(self.is_refused(TooMuch, desk, "send ann 6 51 aunt").most, 50)
        self.is_refused(Twice, desk, "send ann 6 10 kin")
        self.is_refused(NoSum, desk, "send ann 6 0 kin")
        self.is_refused(NoSum, desk, "send ann 1000000000001 1 kin")
        self.is_refused(NoSum, desk, "send ann 6 1000000001 kin")
        for bearer in ("", "Kin", "5", "abcdefghi", "kin\n"):
            self.is_refused(NoSum, desk, "send ann 6 1 " + bearer)
        self.is_refused(NoMan, desk, "send zed 6 0 Kin")

    def test_men(self):
        self.is_said(Desk(TEXT), "men", "none")
        self.is_said(desk_of(("lost 5 5",)), "men", "none")
        self.is_said(desk_of(("leaves bob 5",)), "men", "bob")
        self.is_said(desk_of(("leaves bob 5", "fine ann 5 7", "leaves lost 9")), "men", "ann bob lost")

    def test_faults(self):
        self.is_said(Desk(TEXT), "faults", "none")
        self.is_said(desk_of(), "faults", "none")
        self.is_said(desk_of(("leaves bob 5",)), "faults", "bob:5:turn")
        rows = ("leaves bob 5", "lost 9 8", "lost 7 7", "joins ann 4 boy", "leaves ann 4", "leaves bob 10")
        self.is_said(desk_of(rows), "faults", "-:7:lost -:9:lost ann:4:two bob:5:turn bob:10:turn")

    def test_days(self):
        desk = desk_of()
        self.is_said(desk, "days ann", "5-11:mate 12-13:hand 16-19:hand")
        self.is_said(desk, "days bob", "3-:boy")
        self.is_said(desk_of(("away ann 5 6",)), "days ann", "none")
        self.is_said(desk_of(("joins ann 5 mate", "leaves ann 6")), "days ann", "5-5:mate")

    def test_earned(self):
        desk = desk_of()
        for day, wanted in ((0, "0"), (4, "0"), (5, "120/7"), (6, "240/7"), (11, "120"), (12, "150"), (FAR, "300")):
            self.is_said(desk, f"earned ann {day}", wanted)
        self.is_said(desk_of(("joins ann 0 hand",)), "earned ann 9999999999999", "300000000000000")

    def test_had(self):
        desk = desk_of()
        for day, wanted in ((0, "5 0 0 0"), (5, "5 0 0 0"), (6, "5 50 0 0"), (8, "5 50 10 0"), (9, "5 50 10 7"), (FAR, "5 50 10 7")):
            self.is_said(desk, f"had ann {day}", wanted)
        self.is_said(desk, "had bob 5", "0 0 0 0")

    def test_left_and_room(self):
        desk = desk_of()
        for day, wanted, most in ((0, "-5", "0"), (4, "-5", "0"), (5, "12", "0"), (6, "-21", "0"), (8, "3", "3"), (9, "13", "13"),
                                  (11, "48", "48"), (19, "228", "228"), (20, "228", "0")):
            self.is_said(desk, f"left ann {day}", wanted)
            self.is_said(desk, f"room ann {day}", most)

    def test_next(self):
        desk = desk_of(("joins ann 0 mate", "home ann 6 50 2 kin", "joins bob 3 boy"))
        for day, wanted in ((0, "6"), (6, "6"), (7, "34"), (34, "34"), (35, "none"), (9999999999999, "none")):
            self.is_said(desk, f"next ann {day}", wanted)
        self.is_said(desk, "next bob 0", "none")

    def test_over(self):
        self.is_said(desk_of(), "over ann", "6 21")
        self.is_said(desk_of(), "over bob", "none")
        self.is_said(desk_of(("joins ann 0 boy", "home ann 1000000000000 7 2 kin")), "over ann", "1000000000000 7")

    def test_off(self):
        desk = desk_of()
        for day, wanted in ((0, "0 0 owner:5"), (5, "12 0"), (6, "0 0 kin:21"), (9, "13 0"), (20, "228 0")):
            self.is_said(desk, f"off ann {day}", wanted)
        rows = ("slops ann 5 10 purser", "advance ann 4 5 kin", "fine ann 5 7", "joins bob 3 boy")
        self.is_said(desk_of(rows), "off ann 5", "0 7 kin:5 purser:10")
        self.is_said(desk_of(rows), "off bob 5", "0 0")

    def test_chests(self):
        desk = desk_of()
        self.is_said(desk, "chests 0", "church:0 sick:0")
        self.is_said(desk, "chests 8", "church:0 sick:0")
        self.is_said(desk, "chests 9", "church:2 sick:5")
        self.is_said(Desk("boy=0/1 sick*3 28"), "chests 9999999999999", "sick:0")
        self.is_said(desk_of(("fine zed 5 7", "leaves zed 3", "lost 1 1", "lost 2 2")), "chests 9", "church:2 sick:5")

    def test_great_numbers(self):
        desk = desk_of(("joins ann 0 rich", "home ann 0 1000000000 1000000 kin"), "boy=0/1,rich=1000000000/1 sick*3 1")
        self.is_said(desk, "left ann 9999999999999", str(10 ** 22 - 10 ** 15))
        self.is_said(desk, "off ann 9999999999999", f"{10 ** 22 - 10 ** 15} 0")
        self.is_said(desk_of(("joins ann 0 bit",), "bit=1/999 sick*3 1"), "earned ann 9999999999998", "1111111111111/111")


class Refused(Checks):
    def test_no_text(self):
        for thing in small_things() + [["back"], ("men",), b"men"]:
            if not isinstance(thing, str):
                self.is_refused(NoRow, desk_of(), thing)

    def test_other_first_words(self):
        desk = desk_of()
        for row in ("", " ", "  ", "Men", "men\n", "\nmen", " men", "man", "joins ann 5 mate", "join", "say men", "len", "none", "ok",
                    "paid ann 5", "shared 5", "sent ann 5", "Enter joins bob 5 boy", "enter\njoins bob 5 boy", "-", "x" * 4000, "\n"):
            self.is_refused(NoRow, desk, row)

    def test_words_left_out_and_more_of_them(self):
        for row, many in EACH:
            if many is not None:
                words = row.split(" ")
                self.assertEqual(len(words), many)
                desk = desk_of()
                desk.say(row)
                for other in (row + " ", row + " 5", row + " x", row + "  ", " " + row, row.replace(" ", "  ", 1)):
                    if other != row:
                        self.is_refused(NoRow, desk_of(), other)
                for at in range(1, many):
                    self.is_refused(NoRow, desk, " ".join(words[:at]))

    def test_enter_and_strike_without_a_page(self):
        desk = desk_of()
        for word in ("enter", "strike"):
            self.is_refused(NoRow, desk, word)
            self.is_refused(NoText, desk, word + " ")
            self.is_refused(NoText, desk, word + "  ")

    def test_empty_words(self):
        desk = desk_of()
        # An empty word is a word: the count is right, but there is no such man, or number.
        self.is_refused(NoMan, desk, "days ")
        self.is_refused(NoMan, desk, "over ")
        self.is_refused(NoMan, desk, "left  5")
        self.is_refused(NoText, desk, "left ann ")
        self.is_refused(NoText, desk, "left  ")
        self.is_refused(NoText, desk, "chests ")
        self.is_refused(NoText, desk, "send ann  1 kin")
        self.is_refused(NoSum, desk, "send ann 5 1 ")

    def test_words_with_any_other_sign(self):
        desk = desk_of()
        for man in ("ann\n", "\nann", "an/n", "ann,bob", "-", "*", "Ann", "ann\tbob"):
            self.is_refused(NoMan, desk, "days " + man)
            self.is_refused(NoMan, desk, f"left {man} 5")

    def test_numbers_not_so_written(self):
        desk = desk_of()
        for figures in NUMBERS_NOT_SO_WRITTEN:
            for word in ("earned", "had", "left", "room", "next", "off"):
                self.is_refused(NoText, desk, f"{word} ann {figures}")
                # Ahead of all that the functions refuse.
                self.is_refused(NoText, desk, f"{word} zed {figures}")
            self.is_refused(NoText, desk, f"chests {figures}")
            self.is_refused(NoText, desk, f"send zed {figures} 0 Kin")
            self.is_refused(NoText, desk, f"send zed 5 {figures} Kin")

    def test_thirteen_figures(self):
        desk = desk_of()
        self.is_said(desk, "left ann 9999999999999", "228")
        self.is_refused(NoText, desk, "left ann 10000000000000")

    def test_no_row_ahead_of_no_text(self):
        desk = desk_of()
        self.is_refused(NoRow, desk, "left ann 05 5")
        self.is_refused(NoRow, desk, "left 05")
        self.is_refused(NoRow, desk, "send ann x y")
        self.is_refused(NoRow, desk, "chests x y")

    def test_pages_not_so_written(self):
        desk = desk_of()
        for word in ("enter", "strike"):
            for page in ("joins", "joins ann", "joins ann 05 mate", "joins ann 5 cook", "joins ann 5 mate ", " joins ann 5 mate",
                         "joins ann 5 mate kin", "joins ann  5 mate", "away ann 6 5", "lost 5 6", "fine ann 5 0", "joins ann 5 mate\n",
                         "joins ann 5 mate / leaves ann 20", "none", "x", "5"):
                self.is_refused(NoText, desk, f"{word} {page}")

    def test_pages_spoilt_at_any_place(self):
        desk = desk_of(ROWS[:2])
        for page in ROWS:
            for at in range(len(page) + 1):
                for sign in ("\n", "-", ",", "A"):
                    for word in ("enter", "strike"):
                        self.is_refused(NoText, desk, f"{word} {page[:at]}{sign}{page[at:]}")

    def test_as_the_purser_refuses(self):
        desk = desk_of()
        self.is_refused(Twice, desk, "enter joins ann 5 mate")
        self.is_refused(NotThere, desk, "strike joins ann 6 mate")
        self.is_refused(NothingLeft, Desk(TEXT), "back")
        full = desk_of([f"fine zed {day} 1" for day in range(200)])
        self.is_refused(TooMany, full, "enter joins ann 5 mate")
        self.is_refused(Twice, full, "enter fine zed 7 1")

    def test_as_the_functions_refuse(self):
        desk = desk_of((*ROWS, "leaves cid 3"))
        for row in ("days", "over"):
            self.is_refused(NoMan, desk, f"{row} zed")
            self.assertEqual(self.is_refused(Faulty, desk, f"{row} cid").faults, (("cid", 3, "turn"),))
        for row in ("earned", "had", "left", "room", "next", "off"):
            self.is_refused(NoMan, desk, f"{row} zed 5")
            self.assertEqual(self.is_refused(Faulty, desk, f"{row} cid 5").faults, (("cid", 3, "turn"),))
        self.is_refused(Faulty, desk, "send cid 5 0 Kin")
        desk.say("enter lost 9 9")
        desk.say("enter lost 8 8")
        self.assertEqual(self.is_refused(Faulty, desk, "left ann 5").faults, (("", 8, "lost"), ("", 9, "lost")))

    def test_a_desk_of_a_text_that_writes_no_articles(self):
        for text in ("", " ", TEXT + " ", " " + TEXT, TEXT + "\n", TEXT.replace("480", "0480"), TEXT.replace(" 28", ""), TEXT.replace("hand", "zany"),
                     TEXT.upper(), "back", "boy=0/1 sick*3 0", "joins ann 5 mate"):
            with self.subTest(text=text), self.assertRaises(NoText):
                Desk(text)
        for thing in small_things() + [GOOD, [TEXT]]:
            if thing != "mate=480/28 sick*3 28":
                with self.assertRaises(NoText):
                    Desk(thing)


class ManyRows(Checks):
    def test_two_desks_do_not_change_one_another(self):
        one, other = desk_of(ROWS[:2]), desk_of(ROWS[2:4])
        one.say("enter lost 9 9")
        self.is_said(other, "pages", "away ann 14 15 / leaves ann 20")
        one.say("back")
        one.say("back")
        one.say("back")
        self.is_refused(NothingLeft, one, "back")
        self.is_said(other, "back", "ok")
        self.is_said(other, "pages", "away ann 14 15")

    def test_many_rows_and_all_of_them_taken_back(self):
        chance = random.Random(6)
        desk, told = desk_of(("joins ann 0 hand",)), ["none", "joins ann 0 hand"]
        while len(told) < 400:
            day = chance.randint(0, 60)
            row = chance.choice((f"enter fine ann {day} 1", f"strike fine ann {day} 1", f"send ann {day} 1 kin", f"strike home ann {day} 1 1 kin",
                                 f"enter away ann {day} {day}", f"strike away ann {day} {day}"))
            try:
                desk.say(row)
            except WageError:
                self.is_said(desk, "pages", told[-1])
            else:
                told.append(desk.say("pages"))
        while told:
            self.is_said(desk, "pages", told.pop())
            if told:
                self.is_said(desk, "back", "ok")
        self.is_refused(NothingLeft, desk, "back")

    def test_the_same_row_again(self):
        desk = desk_of()
        for row, many in EACH[4:]:
            self.assertEqual(desk.say(row), desk.say(row))

    def test_argument_by_name(self):
        self.assertEqual(Desk(text=TEXT).say(row="men"), "none")


def said(desk, row):
    try:
        return desk.say(row)
    except WageError as refusal:
        return type(refusal)


def told(action, *given):
    try:
        return action(*given)
    except WageError as refusal:
        return type(refusal)


class AsTheFunctions(unittest.TestCase):
    def is_as_told(self, articles, pages, names, days):
        desk = desk_of([page_text(page) for page in pages], articles_text(articles))
        self.assertEqual(desk.say("pages"), " / ".join(page_text(page) for page in sorted(pages)) or "none")
        self.assertEqual(desk.say("men"), " ".join(men(articles, pages)) or "none")
        wanted = [f"{man or '-'}:{day}:{word}" for man, day, word in faults(articles, pages)]
        self.assertEqual(desk.say("faults"), " ".join(wanted) or "none")
        for man in names:
            self.of_a_man(desk, articles, pages, man, days)

    def like(self, desk, row, found, write):
        self.assertEqual(said(desk, row), found if isinstance(found, type) else write(found), row)

    def of_a_man(self, desk, articles, pages, man, days):
        def end(last):
            return "" if last is None else last

        self.like(desk, f"days {man}", told(paid_days, articles, pages, man),
                  lambda rows: " ".join(f"{first}-{end(last)}:{rank}" for first, last, rank in rows) or "none")
        self.like(desk, f"over {man}", told(first_over, articles, pages, man), lambda over: f"{over[0]} {over[1]}" if over else "none")
        for day in days:
            self.like(desk, f"earned {man} {day}", told(earned, articles, pages, man, day),
                      lambda top: f"{top[0]}/{top[1]}" if top[1] > 1 else f"{top[0]}")
            self.like(desk, f"had {man} {day}", told(had, articles, pages, man, day), lambda sums: "{} {} {} {}".format(*sums))
            self.like(desk, f"left {man} {day}", told(left, articles, pages, man, day), str)
            self.like(desk, f"room {man} {day}", told(room, articles, pages, man, day), str)
            self.like(desk, f"next {man} {day}", told(next_sent, articles, pages, man, day), lambda sent: str(sent).lower())
            self.like(desk, f"off {man} {day}", told(paid_off, articles, pages, man, day),
                      lambda off: " ".join([f"{off[0]} {off[1]}"] + [f"{bearer}:{pence}" for bearer, pence in off[2]]))
            wanted = [f"{chest}:{pence}" for chest, pence in chests_at(articles, pages, day)]
            self.assertEqual(desk.say(f"chests {day}"), " ".join(wanted))

    def test_random_books(self):
        for seed in range(60):
            with self.subTest(seed=seed):
                self.is_as_told(*random_book(seed), ("ann", "bob", "lost", "zed"), (0, 3, 17, 41, 100))

    def test_two_hundred_pages(self):
        self.is_as_told(*great_book(8), ("ann", "bob"), (0, 77, 300, 600))


if __name__ == "__main__":
    unittest.main()
