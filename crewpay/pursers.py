"""Pursers, who enter pages, strike them out, send, join their books, and go back (point 15)."""

from crewpay.articles import is_name, need_articles
from crewpay.errors import NoPage, NoSum, NothingLeft, NotThere, TooMany, TooMuch, Twice
from crewpay.ledgers import left_at
from crewpay.pages import MOST_PAGES, is_day, is_sound_page, is_sum
from crewpay.payoff import paid_off
from crewpay.rooms import room_at
from crewpay.turns import need_sound_man


class Purser:
    """A purser of articles: the book is the rising list of pages, the past is all books ahead of it."""

    def __init__(self, articles):
        need_articles(articles)
        self.articles = articles
        self.book = []
        self.past = []

    def turn_to(self, book):
        """Have other pages, so that they can be taken back."""
        # A book is never changed itself: it may be one of the past.
        self.past.append(self.book)
        self.book = sorted(book)

    def enter(self, page):
        """Enter a page."""
        if not is_sound_page(self.articles, page):
            raise NoPage("this is no page of the articles")
        if page in self.book:
            raise Twice("the page is there")
        if len(self.book) >= MOST_PAGES:
            raise TooMany("there is no place for one more page")
        self.turn_to(self.book + [page])

    def strike(self, page):
        """Strike out a page."""
        # What is no page may yet be equal to one, by a truth instead of a number.
        if not is_sound_page(self.articles, page) or page not in self.book:
            raise NotThere("the page is not there")
        self.turn_to([kept for kept in self.book if kept != page])

    def send(self, man, day, pence, whom="kin"):
        """Send a sum home on a day, by the bearer whom; the room that is left then."""
        need_sound_man(self.articles, self.book, man)
        if not (is_day(day) and is_sum(pence) and is_name(whom)):
            raise NoSum("there is no such day, no such sum, or no such bearer")
        most = room_at(self.articles, self.book, man, day)
        if pence > most:
            raise TooMuch(most)
        self.enter(("home", man, day, pence, 1, whom))
        return room_at(self.articles, self.book, man, day)

    def join(self, other):
        """Enter all pages of another purser that lack; how many these are."""
        told = other.pages()
        if not all([is_sound_page(self.articles, page) for page in told]):
            raise NoPage("some page is none of the articles")
        lacking = [page for page in told if page not in self.book]
        if len(self.book) + len(lacking) > MOST_PAGES:
            raise TooMany("there is no place for so many pages")
        self.turn_to(self.book + lacking)
        return len(lacking)

    def back(self):
        """Take back what was done last."""
        if len(self.past) == 0:
            raise NothingLeft("nothing is left to be taken back")
        self.book = self.past.pop()

    def pages(self):
        """All pages, rising."""
        return list(self.book)

    def left(self, man, day):
        """What is left at the day of what the man earned."""
        need_sound_man(self.articles, self.book, man)
        return left_at(self.articles, self.book, man, day)

    def room(self, man, day):
        """The room of the man at the day."""
        need_sound_man(self.articles, self.book, man)
        return room_at(self.articles, self.book, man, day)

    def off(self, man, day):
        """What the man is paid off at the day: (paid, put up, borne)."""
        return paid_off(self.articles, self.book, man, day)

    def __len__(self):
        return len(self.book)

    def __eq__(self, other):
        return isinstance(other, Purser) and self.articles == other.articles and self.book == other.book
