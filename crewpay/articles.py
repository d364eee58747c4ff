"""Articles: what each rank earns, the chests, and the month (points 2 and 4)."""

from crewpay.errors import NoArticles, NoRank, NoSum
from crewpay.fractions import lowest

MOST_LETTERS = 8
MOST_RANKS = 12
MOST_CHESTS = 6
MOST_PENCE = 10 ** 9
MOST_DAYS = 1000
MOST_PART = 1000
MOST_MONTH = 1000


def is_whole(thing):
    """Whether thing is a whole number."""
    # Python counts the truths among the ints, the document does not.
    return isinstance(thing, int) and not isinstance(thing, bool)


def is_whole_within(thing, least, most):
    """Whether thing is a whole number from least to most."""
    return is_whole(thing) and least <= thing <= most


def is_name(thing):
    """Whether thing is a text of 1 to 8 small letters."""
    if not isinstance(thing, str) or not 1 <= len(thing) <= MOST_LETTERS:
        return False
    # islower would take letters beyond a to z, too.
    return all(["a" <= sign <= "z" for sign in thing])


def is_tuple_of(thing, least, most):
    """Whether thing is a tuple that has from least to most parts."""
    return isinstance(thing, tuple) and least <= len(thing) <= most


def is_rising(names):
    """Whether each name is greater than the one ahead of it, so that none is there twice."""
    return all([name < later for name, later in zip(names, names[1:])])


def is_rank_row(thing):
    """Whether thing is a tuple (rank, pence, days)."""
    if not is_tuple_of(thing, 3, 3):
        return False
    rank, pence, days = thing
    return is_name(rank) and is_whole_within(pence, 0, MOST_PENCE) and is_whole_within(days, 1, MOST_DAYS)


def is_chest_row(thing):
    """Whether thing is a tuple (chest, part)."""
    if not is_tuple_of(thing, 2, 2):
        return False
    chest, part = thing
    return is_name(chest) and is_whole_within(part, 1, MOST_PART)


def are_ranks(thing):
    """Whether thing is the ranks of articles."""
    if not is_tuple_of(thing, 1, MOST_RANKS) or not all([is_rank_row(row) for row in thing]):
        return False
    return is_rising([row[0] for row in thing])


def are_chests(thing):
    """Whether thing is the chests of articles."""
    if not is_tuple_of(thing, 1, MOST_CHESTS) or not all([is_chest_row(row) for row in thing]):
        return False
    return is_rising([row[0] for row in thing])


def is_articles(thing):
    """Whether thing, which may be anything, is articles."""
    if not is_tuple_of(thing, 3, 3):
        return False
    ranks, chests, month = thing
    return are_ranks(ranks) and are_chests(chests) and is_whole_within(month, 1, MOST_MONTH)


def need_articles(thing):
    """Refuse what is no articles."""
    if not is_articles(thing):
        raise NoArticles("these are no articles")


def rate_of(articles, rank):
    """The tuple (pence, days) by which a rank of the articles is paid."""
    for name, pence, days in articles[0]:
        if name == rank:
            return (pence, days)
    raise NoRank("the articles have no such rank")


def earns(articles, rank, many=1):
    """The fraction of pence that a rank earns in so many days."""
    need_articles(articles)
    pence, days = rate_of(articles, rank)
    if many < 0:
        raise NoSum("days are from 0 on")
    return lowest(pence * many, days)
