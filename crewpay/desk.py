"""The desk, which is told rows and answers with texts (point 17)."""

from crewpay.chests import chests_at
from crewpay.errors import NoRow
from crewpay.ledgers import earned, had, next_sent
from crewpay.pages import men
from crewpay.pursers import Purser
from crewpay.rooms import first_over
from crewpay.texts import page_text, read_articles, read_number, read_page
from crewpay.turns import faults, paid_days


def or_none(text):
    """The text, or "none" for an empty one."""
    return "none" if text == "" else text


def fault_text(fault):
    """A fault as MAN:DAY:WORD, with - for the ship."""
    man, day, word = fault
    return f"-:{day}:{word}" if man == "" else f"{man}:{day}:{word}"


def stretch_text(stretch):
    """A paid stretch as FIRST-LAST:RANK, without LAST where there is no end."""
    first, last, rank = stretch
    return f"{first}-:{rank}" if last is None else f"{first}-{last}:{rank}"


def answer_enter(purser, given):
    """Enter the page."""
    purser.enter(given[0])
    return "ok"


def answer_strike(purser, given):
    """Strike out the page."""
    purser.strike(given[0])
    return "ok"


def answer_back(purser, given):
    """Take back what was done last."""
    purser.back()
    return "ok"


def answer_send(purser, given):
    """Send a sum home: the room behind it."""
    man, day, pence, bearer = given
    return str(purser.send(man, day, pence, bearer))


def answer_pages(purser, given):
    """All pages."""
    return or_none(" / ".join([page_text(page) for page in purser.pages()]))


def answer_men(purser, given):
    """The names of all men."""
    return or_none(" ".join(men(purser.articles, purser.pages())))


def answer_faults(purser, given):
    """All faults."""
    return or_none(" ".join([fault_text(row) for row in faults(purser.articles, purser.pages())]))


def answer_days(purser, given):
    """The paid stretches."""
    return or_none(" ".join([stretch_text(row) for row in paid_days(purser.articles, purser.pages(), given[0])]))


def answer_earned(purser, given):
    """What the man earned to the day."""
    man, day = given
    top, bottom = earned(purser.articles, purser.pages(), man, day)
    return str(top) if bottom == 1 else f"{top}/{bottom}"


def answer_had(purser, given):
    """What the man had to the day: four numbers."""
    man, day = given
    return " ".join([str(pence) for pence in had(purser.articles, purser.pages(), man, day)])


def answer_left(purser, given):
    """What is left at the day."""
    man, day = given
    return str(purser.left(man, day))


def answer_room(purser, given):
    """The room of the man at the day."""
    man, day = given
    return str(purser.room(man, day))


def answer_next(purser, given):
    """The next day at which something is sent."""
    man, day = given
    sent = next_sent(purser.articles, purser.pages(), man, day)
    return "none" if sent is None else str(sent)


def answer_over(purser, given):
    """The first day over, and by how much."""
    found = first_over(purser.articles, purser.pages(), given[0])
    return "none" if found is None else f"{found[0]} {found[1]}"


def answer_off(purser, given):
    """What the man is paid off, what is put up, and what each bearer bears."""
    man, day = given
    paid, put_up, borne = purser.off(man, day)
    return " ".join([str(paid), str(put_up)] + [f"{bearer}:{pence}" for bearer, pence in borne])


def answer_chests(purser, given):
    """What all fines to the day bring to each chest."""
    return " ".join([f"{chest}:{pence}" for chest, pence in chests_at(purser.articles, purser.pages(), given[0])])


# What stands behind the first word of each row.
KINDS = {
    "enter": ("page",),
    "strike": ("page",),
    "back": (),
    "send": ("man", "number", "number", "bearer"),
    "pages": (),
    "men": (),
    "faults": (),
    "days": ("man",),
    "earned": ("man", "number"),
    "had": ("man", "number"),
    "left": ("man", "number"),
    "room": ("man", "number"),
    "next": ("man", "number"),
    "over": ("man",),
    "off": ("man", "number"),
    "chests": ("number",),
}
ANSWERS = {
    "enter": answer_enter,
    "strike": answer_strike,
    "back": answer_back,
    "send": answer_send,
    "pages": answer_pages,
    "men": answer_men,
    "faults": answer_faults,
    "days": answer_days,
    "earned": answer_earned,
    "had": answer_had,
    "left": answer_left,
    "room": answer_room,
    "next": answer_next,
    "over": answer_over,
    "off": answer_off,
    "chests": answer_chests,
}


def parts_of_row(row):
    """The first word of a row and the list of its other parts, a page being one part; NoRow of what is no row."""
    if not isinstance(row, str):
        raise NoRow("a row is a text")
    first, *rest = row.split(" ")
    if first not in KINDS:
        raise NoRow("there is no row of this first word")
    parts = [" ".join(rest)] if rest and KINDS[first] == ("page",) else rest
    if len(parts) != len(KINDS[first]):
        raise NoRow("the row has another count of words")
    return (first, parts)


def read_given(articles, kind, part):
    """What a part of a row, of this kind, writes."""
    if kind == "number":
        return read_number(part)
    return read_page(articles, part) if kind == "page" else part


class Desk:
    """A desk with a purser of the articles that a text writes."""

    def __init__(self, text):
        self.purser = Purser(read_articles(text))

    def say(self, row):
        """The answer to a row."""
        first, parts = parts_of_row(row)
        given = [read_given(self.purser.articles, kind, part) for kind, part in zip(KINDS[first], parts)]
        answer = ANSWERS[first]
        return answer(self.purser, given)
