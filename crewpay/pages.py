"""Pages of a purser's book: what they are, and of which men they tell (point 5)."""

from crewpay.articles import is_name, is_whole_within, need_articles
from crewpay.errors import NoPages

MOST_DAY = 10 ** 12
MOST_SUM = 10 ** 9
MOST_TIMES = 10 ** 6
MOST_PAGES = 200
# The kinds of the parts that stand behind the first word of each page.
SHAPES = {
    "joins": ("man", "day", "rank"),
    "ranked": ("man", "day", "rank"),
    "leaves": ("man", "day"),
    "away": ("man", "day", "day"),
    "advance": ("man", "day", "pence", "bearer"),
    "slops": ("man", "day", "pence", "bearer"),
    "fine": ("man", "day", "pence"),
    "home": ("man", "day", "pence", "times", "bearer"),
    "lost": ("day", "day"),
}
# The words of pages whose sum is had just on their day.
SINGLE = ("advance", "slops", "fine")


def is_day(thing):
    """Whether thing is a day that a page can have."""
    return is_whole_within(thing, 0, MOST_DAY)


def is_sum(thing):
    """Whether thing is pence that a page can have."""
    return is_whole_within(thing, 1, MOST_SUM)


def is_part(articles, kind, thing):
    """Whether thing is a part of this kind in a page of the articles."""
    if kind == "rank":
        return thing in [row[0] for row in articles[0]]
    if kind == "day":
        return is_day(thing)
    if kind == "pence":
        return is_sum(thing)
    if kind == "times":
        return is_whole_within(thing, 1, MOST_TIMES)
    return is_name(thing)


def has_shape(articles, thing):
    """Whether thing is a tuple of a page's word and of parts of the kinds that go with it."""
    if not isinstance(thing, tuple) or len(thing) == 0:
        return False
    word, *parts = thing
    # Only a text can be asked for in the table: a list is no key of any.
    if not isinstance(word, str) or word not in SHAPES:
        return False
    kinds = SHAPES[word]
    if len(parts) != len(kinds):
        return False
    return all([is_part(articles, kind, part) for kind, part in zip(kinds, parts)])


def is_sound_page(articles, thing):
    """Whether thing is a page; the articles are known to be articles."""
    if not has_shape(articles, thing):
        return False
    if thing[0] == "away":
        return thing[2] <= thing[3]
    if thing[0] == "lost":
        return thing[2] <= thing[1]
    return True


def is_page(articles, thing):
    """Whether thing, which may be anything, is a page of the articles."""
    need_articles(articles)
    return is_sound_page(articles, thing)


def are_pages(articles, thing):
    """Whether thing, which may be anything, is pages of the articles."""
    need_articles(articles)
    if not isinstance(thing, list) or len(thing) > MOST_PAGES:
        return False
    # Only what is known to be pages can be put into a set.
    return all([is_sound_page(articles, page) for page in thing]) and len(set(thing)) == len(thing)


def need_pages(articles, thing):
    """Refuse what is no articles, then what is no pages of them."""
    if not are_pages(articles, thing):
        raise NoPages("these are no pages of the articles")


def names_in(pages):
    """The names of all men of whom the pages tell, rising."""
    return sorted({page[1] for page in pages if page[0] != "lost"})


def men(articles, pages):
    """The names of all men of whom the pages tell, rising."""
    need_pages(articles, pages)
    return names_in(pages)


def pages_of(pages, man, words):
    """The pages that tell of the man by one of these words."""
    return [page for page in pages if page[0] in words and page[1] == man]


def lost_pages(pages):
    """The pages by which the ship was lost."""
    return [page for page in pages if page[0] == "lost"]
