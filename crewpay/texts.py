"""Pages and articles as texts, there and back (point 16)."""

from crewpay.articles import is_articles, need_articles
from crewpay.errors import NoText
from crewpay.pages import SHAPES, is_sound_page

FIGURES = "0123456789"
MOST_FIGURES = 13
NUMBERS = ("day", "pence", "times")


def page_text(page):
    """The page as a text."""
    return " ".join([str(part) for part in page])


def articles_text(articles):
    """The articles as a text."""
    need_articles(articles)
    ranks = ",".join([f"{rank}={pence}/{days}" for rank, pence, days in articles[0]])
    chests = ",".join([f"{chest}*{part}" for chest, part in articles[1]])
    return f"{ranks} {chests} {articles[2]}"


def read_number(text):
    """The number that the text writes."""
    if not 1 <= len(text) <= MOST_FIGURES or not all([sign in FIGURES for sign in text]):
        raise NoText("a number is written by 1 to 13 figures")
    if text[0] == "0" and len(text) > 1:
        raise NoText("the first of several figures is no 0")
    return int(text)


def words_of(thing):
    """The words of what should be a text, each single blank between two of them."""
    if not isinstance(thing, str):
        raise NoText("this is no text")
    return thing.split(" ")


def read_part(kind, word):
    """The part of a page, of this kind, that the word writes."""
    return read_number(word) if kind in NUMBERS else word


def read_page(articles, text):
    """The page of the articles that the text, which may be anything, writes."""
    need_articles(articles)
    first, *words = words_of(text)
    kinds = SHAPES.get(first, ())
    # An unknown word fails here where others follow it, and else below: no page has but one.
    if len(words) != len(kinds):
        raise NoText("this has not the parts of a page")
    parts = [read_part(kind, word) for kind, word in zip(kinds, words)]
    page = (first, *parts)
    if not is_sound_page(articles, page):
        raise NoText("this is no page of the articles")
    return page


def read_rank(text):
    """The tuple (rank, pence, days) that the text writes."""
    # Where a sign between two parts lacks, the later part is empty, and no number.
    rank, sign, rate = text.partition("=")
    pence, stroke, days = rate.partition("/")
    return (rank, read_number(pence), read_number(days))


def read_chest(text):
    """The tuple (chest, part) that the text writes."""
    chest, star, part = text.partition("*")
    return (chest, read_number(part))


def read_articles(text):
    """The articles that the text, which may be anything, writes."""
    words = words_of(text)
    if len(words) != 3:
        raise NoText("articles are ranks, chests and a month")
    ranks = tuple([read_rank(part) for part in words[0].split(",")])
    chests = tuple([read_chest(part) for part in words[1].split(",")])
    articles = (ranks, chests, read_number(words[2]))
    if not is_articles(articles):
        raise NoText("these are no articles")
    return articles
