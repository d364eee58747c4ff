"""Pages and articles as texts: point 16."""

import random
import unittest

from crewpay.errors import NoArticles, NoText
from crewpay.pages import is_page
from crewpay.texts import articles_text, page_text, read_articles, read_page
from helpers import CHESTS, FAR, GOOD, LETTERS, RANKS, away, great_book, home, joins, leaves, random_book, ranked, small_things

WRITTEN = (
    (joins(5), "joins ann 5 mate"),
    (ranked(0), "ranked ann 0 hand"),
    (leaves(20), "leaves ann 20"),
    (away(5, 5), "away ann 5 5"),
    (away(5, FAR), "away ann 5 1000000000000"),
    (("advance", "ann", 5, 1, "owner"), "advance ann 5 1 owner"),
    (("slops", "ann", 10, 10 ** 9, "purser"), "slops ann 10 1000000000 purser"),
    (("fine", "abcdefgh", FAR, 7), "fine abcdefgh 1000000000000 7"),
    (home(5, 100, 12), "home ann 5 100 12 kin"),
    (home(0, 1, 10 ** 6), "home ann 0 1 1000000 kin"),
    (("lost", 9, 0), "lost 9 0"),
    (("lost", 9, 9), "lost 9 9"),
    (("joins", "joins", 5, "mate"), "joins joins 5 mate"),
    (("leaves", "lost", 5), "leaves lost 5"),
)
ARTICLES = (
    (GOOD, "boy=0/1,hand=30/1,mate=480/28 church*1,sick*3 28"),
    (((("a", 0, 1),), (("b", 1),), 1), "a=0/1 b*1 1"),
    (((("mate", 10 ** 9, 1000),), (("abcdefgh", 1000),), 1000), "mate=1000000000/1000 abcdefgh*1000 1000"),
    ((tuple((letter, 10, 9) for letter in LETTERS[:12]), tuple((letter, 10) for letter in LETTERS[:6]), 10),
     "a=10/9,b=10/9,c=10/9,d=10/9,e=10/9,f=10/9,g=10/9,h=10/9,i=10/9,j=10/9,k=10/9,l=10/9 a*10,b*10,c*10,d*10,e*10,f*10 10"),
)
# What stands at no place of a text that writes a page or articles.
STRANGE = (" ", "  ", "\n", "\t", ",", "/", "*", "=", "-", "+", "_", ".", ":", "A", "~", "\u0660", "\u00b2", "\u00e9")


def spoilt(text):
    """The text with a sign more, fewer or otherwise, at each place."""
    texts = [text[:at] + text[at + 1:] for at in range(len(text))]
    for sign in STRANGE + tuple("09az"):
        texts += [text[:at] + sign + text[at:] for at in range(len(text) + 1)]
        texts += [text[:at] + sign + text[at + 1:] for at in range(len(text))]
    return texts


class Pages(unittest.TestCase):
    def is_refused(self, text, articles=GOOD):
        with self.subTest(text=text), self.assertRaises(NoText) as caught:
            read_page(articles, text)
        self.assertIs(type(caught.exception), NoText)

    def test_there_and_back(self):
        for page, text in WRITTEN:
            self.assertTrue(is_page(GOOD, page))
            self.assertEqual(page_text(page), text)
            read = read_page(GOOD, text)
            self.assertEqual(read, page)
            self.assertEqual([type(part) for part in read], [type(part) for part in page])
            self.assertIs(type(read), tuple)

    def test_random_pages_there_and_back(self):
        for seed in range(40):
            articles, pages = random_book(seed)
            for page in pages:
                self.assertEqual(read_page(articles, page_text(page)), page)
        articles, pages = great_book(1, 10 ** 9)
        for page in pages:
            self.assertEqual(read_page(articles, page_text(page)), page)

    def test_spoilt_at_any_place(self):
        # What is read is just what is written so: all else is refused.
        for page, text in WRITTEN:
            for other in spoilt(text):
                try:
                    read = read_page(GOOD, other)
                except NoText:
                    continue
                self.assertTrue(is_page(GOOD, read))
                self.assertEqual(page_text(read), other)

    def test_numbers(self):
        for figures in ("05", "00", "+5", "-5", "5.0", "", "5e1", "0x5", "1_0", " 5", "five", "\u0665", "5\n", "10000000000000",
                        "1000000000001", "9999999999999", "0000000000005", "5" * 4000):
            self.is_refused(f"joins ann {figures} mate")
            self.is_refused(f"lost {figures} {figures}")
            self.is_refused(f"home ann {figures} 100 12 kin")
        for figures in ("0", "00", "01", "1000000001", "-1", "+1", ""):
            self.is_refused(f"fine ann 5 {figures}")
            self.is_refused(f"home ann 5 {figures} 12 kin")
        for figures in ("0", "1000001", "012", "x"):
            self.is_refused(f"home ann 5 100 {figures} kin")

    def test_thirteen_and_fourteen_figures(self):
        self.assertEqual(read_page(GOOD, "leaves ann 1000000000000"), leaves(FAR))
        self.assertEqual(read_page(GOOD, "leaves ann 0"), leaves(0))
        for figures in ("01000000000000", "10000000000000", "1000000000001", "0000000000000", "00000000000001"):
            self.is_refused(f"leaves ann {figures}")

    def test_blanks_and_line_ends(self):
        for page, text in WRITTEN:
            for other in (" " + text, text + " ", text.replace(" ", "  ", 1), text.replace(" ", "  "), text.replace(" ", ""),
                          text.replace(" ", "\t"), text.replace(" ", "\n"), text + "\n", "\n" + text, text.replace(" ", ","), text.upper()):
                self.is_refused(other)

    def test_parts_more_fewer_and_in_one_anothers_place(self):
        for page, text in WRITTEN:
            words = text.split(" ")
            self.is_refused(text + " kin")
            self.is_refused(text + " 5")
            self.is_refused(" ".join(words[:-1]))
            self.is_refused(" ".join(words[1:]))
        for text in ("joins 5 ann mate", "joins ann mate 5", "ann joins 5 mate", "home ann 5 100 kin 12", "home ann kin 100 12 5",
                     "fine 5 ann 7", "lost ann 5", "away 5 5 ann", "slops ann owner 5 7", "joins ann 5 5", "leaves 5 5", "leaves ann ann"):
            self.is_refused(text)

    def test_pages_that_are_none(self):
        for text in ("away ann 6 5", "lost 5 6", "joins ann 5 cook", "ranked ann 5 cook", "joins anns5 5 mate", "joins Ann 5 mate",
                     "joins abcdefghi 5 mate", "sinks ann 5", "joins", "joins ann", "", " ", "lost", "none", "fine ann 5 7 / fine ann 6 7"):
            self.is_refused(text)

    def test_ranks_of_other_articles(self):
        cooks = ((("cook", 40, 1),), CHESTS, 28)
        self.assertEqual(read_page(cooks, "joins ann 5 cook"), joins(5, "cook"))
        self.is_refused("joins ann 5 mate", cooks)
        self.assertEqual(read_page(cooks, "leaves ann 5"), leaves(5))
        # The text of a page hangs on no articles.
        self.assertEqual(page_text(joins(5, "cook")), "joins ann 5 cook")

    def test_what_is_no_text(self):
        for thing in small_things() + [joins(5), ["joins ann 5 mate"], b"joins ann 5 mate"]:
            self.is_refused(thing)

    def test_no_articles_first(self):
        for thing in small_things():
            for text in ("joins ann 5 mate", "", None):
                with self.assertRaises(NoArticles):
                    read_page(thing, text)

    def test_arguments_by_name(self):
        self.assertEqual(page_text(page=joins(5)), "joins ann 5 mate")
        self.assertEqual(read_page(text="joins ann 5 mate", articles=GOOD), joins(5))


class Articles(unittest.TestCase):
    def is_refused(self, text):
        with self.subTest(text=text), self.assertRaises(NoText) as caught:
            read_articles(text)
        self.assertIs(type(caught.exception), NoText)

    def test_there_and_back(self):
        for articles, text in ARTICLES:
            self.assertEqual(articles_text(articles), text)
            self.assertEqual(read_articles(text), articles)

    def test_random_articles_there_and_back(self):
        chance = random.Random(4)
        for at in range(100):
            names = sorted({"".join(chance.choices(LETTERS, k=chance.randint(1, 8))) for rank in range(chance.randint(1, 12))})
            ranks = tuple((name, chance.randint(0, 10 ** chance.randint(0, 9)), chance.randint(1, 1000)) for name in names)
            chests = tuple((name, chance.randint(1, 1000)) for name in names[:6])
            articles = (ranks, chests, chance.randint(1, 1000))
            self.assertEqual(read_articles(articles_text(articles)), articles)

    def test_spoilt_at_any_place(self):
        for articles, text in ARTICLES[:3]:
            for other in spoilt(text):
                try:
                    read = read_articles(other)
                except NoText:
                    continue
                self.assertEqual(articles_text(read), other)

    def test_signs_out_of_place(self):
        for text in ("boy=0/1,hand=30/1 church*1,sick*3,", "boy=0/1,hand=30/1, sick*3 28", ",boy=0/1 sick*3 28", "boy=0/1 ,sick*3 28",
                     "boy=0/1,,hand=30/1 sick*3 28", "boy=0/1 church*1,,sick*3 28", "boy=0/1, hand=30/1 sick*3 28", "boy=0/1; sick*3 28",
                     "boy=0/1/1 sick*3 28", "boy=0 sick*3 28", "boy=/1 sick*3 28", "boy=0/ sick*3 28", "boy0/1 sick*3 28",
                     "boy==0/1 sick*3 28", "boy=0//1 sick*3 28", "=0/1 sick*3 28", "boy sick*3 28", "boy=0*1 sick*3 28",
                     "boy/0=1 sick*3 28", "boy=0/1 sick3 28", "boy=0/1 sick* 28", "boy=0/1 *3 28", "boy=0/1 sick**3 28",
                     "boy=0/1 sick*3*3 28", "boy=0/1 sick=3 28", "boy=0/1 sick*3 28/1", "boy=0/1 sick*3/1 28", "boy*1 sick*3 28"):
            self.is_refused(text)

    def test_blanks_and_line_ends(self):
        text = ARTICLES[0][1]
        for other in (" " + text, text + " ", text + "\n", "\n" + text, text.replace(" ", "  "), text.replace(" ", "\n"), text.replace(" ", ""),
                      text.replace(" ", "\t"), text.replace(",", ", "), text.replace("=", " = "), text.upper(), text + " 28"):
            self.is_refused(other)

    def test_parts_more_fewer_and_in_one_anothers_place(self):
        for text in ("", " ", "  ", "28", "boy=0/1", "boy=0/1 sick*3", "boy=0/1 28", "sick*3 28", "sick*3 boy=0/1 28", "28 boy=0/1 sick*3",
                     "boy=0/1 28 sick*3", "boy=0/1 sick*3 ", " sick*3 28", "boy=0/1  28", "boy=0/1 sick*3 28 28", "boy=0/1 sick*3 church*1 28"):
            self.is_refused(text)

    def test_numbers(self):
        for figures in ("01", "00", "+1", "-1", "", "1.0", "1_0", "x", "\u0661", "1" * 14, "1" * 4000):
            self.is_refused(f"boy={figures}/1 sick*3 28")
            self.is_refused(f"boy=0/{figures} sick*3 28")
            self.is_refused(f"boy=0/1 sick*{figures} 28")
            self.is_refused(f"boy=0/1 sick*3 {figures}")

    def test_numbers_beyond_their_bounds(self):
        for text in ("boy=1000000001/1 sick*3 28", "boy=0/0 sick*3 28", "boy=0/1001 sick*3 28", "boy=0/1 sick*0 28", "boy=0/1 sick*1001 28",
                     "boy=0/1 sick*3 0", "boy=0/1 sick*3 1001", "boy=9999999999999/1 sick*3 28"):
            self.is_refused(text)

    def test_names(self):
        for text in ("Boy=0/1 sick*3 28", "abcdefghi=0/1 sick*3 28", "hand=0/1,boy=0/1 sick*3 28", "boy=0/1,boy=0/1 sick*3 28",
                     "boy=0/1 sick*1,church*1 28", "boy=0/1 sick*1,sick*2 28", "b0y=0/1 sick*3 28", "boy=0/1 s-ck*3 28"):
            self.is_refused(text)
        ranks = ",".join(letter + "=1/1" for letter in LETTERS[:13])
        self.is_refused(ranks + " sick*3 28")
        self.is_refused("boy=0/1 " + ",".join(letter + "*1" for letter in LETTERS[:7]) + " 28")

    def test_what_is_no_text(self):
        for thing in small_things() + [GOOD, list(GOOD), [ARTICLES[0][1]], b"a=0/1 b*1 1"]:
            if thing != "mate=480/28 sick*3 28":
                self.is_refused(thing)

    def test_no_articles(self):
        for thing in small_things() + [list(GOOD), (RANKS, CHESTS, 0), "a=0/1 b*1 1"]:
            with self.assertRaises(NoArticles):
                articles_text(thing)

    def test_arguments_by_name(self):
        self.assertEqual(articles_text(articles=ARTICLES[1][0]), "a=0/1 b*1 1")
        self.assertEqual(read_articles(text="a=0/1 b*1 1"), ARTICLES[1][0])


if __name__ == "__main__":
    unittest.main()
