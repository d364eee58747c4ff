"""What fines bring to the chests (point 13)."""

from crewpay.articles import need_articles
from crewpay.errors import NoSum
from crewpay.pages import need_pages


def sum_of_fines(pages, day):
    """The fines of all men to the day, with it."""
    return sum([page[3] for page in pages if page[0] == "fine" and page[2] <= day])


def shares(chests, total):
    """The total, from 0 on, shared among the chests: the list of (chest, pence) in their order."""
    parts = sum([part for chest, part in chests])
    sums = [total * part // parts for chest, part in chests]
    rests = [total * part % parts for chest, part in chests]
    # Those with the greatest rests are first, of several as great those that stand first.
    order = sorted([(-rest, at) for at, rest in enumerate(rests)])
    for rest, at in order[:total - sum(sums)]:
        sums[at] += 1
    return [(chest, pence) for (chest, part), pence in zip(chests, sums)]


def shared(articles, total):
    """The sum shared among the chests: the list of (chest, pence) in the articles' order."""
    need_articles(articles)
    if total < 0:
        raise NoSum("what is shared is from 0 on")
    return shares(articles[1], total)


def chests_at(articles, pages, day):
    """All fines to the day, with it, of all men, shared among the chests."""
    need_pages(articles, pages)
    return shares(articles[1], sum_of_fines(pages, day))
