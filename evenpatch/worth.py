"""What a running session is worth for a side, with papers and their judges."""

from evenpatch.claims import is_claim
from evenpatch.ladders import Ladder, ends_by, need_asked, number_there, turned
from evenpatch.packs import moved_by, numbers_of
from evenpatch.ratios import Ratio


def worth(house, session, side, payoff):
    """What a side still forces in a session."""
    need_asked(house, session, side, payoff)
    return number_there(house.book, house.frames(session), house.store_now(session), side, "S", payoff)


def worth_paper(house, session, side, payoff):
    """The worth with the values and the ranks of all frames."""
    need_asked(house, session, side, payoff)
    return paper_in(house, session, side, "S", payoff)


def held_paper(house, session, side, payoff):
    """The opposite of the worth with the values and the ranks of all frames, as the enemy sees them."""
    need_asked(house, session, side, payoff)
    return paper_in(house, session, side, "T", payoff)


def is_worth_paper(house, session, side, payoff, value):
    """Whether any value shows that a side forces the number that it tells."""
    need_asked(house, session, side, payoff)
    return is_paper_in(house, session, side, "S", payoff, value)


def is_held_paper(house, session, side, payoff, value):
    """Whether any value shows that a side forces no more than the opposite of the number that it tells."""
    need_asked(house, session, side, payoff)
    return is_paper_in(house, session, side, "T", payoff, value)


def paper_in(house, session, side, view, payoff):
    """The tuple (number, papers) of a session for the one who leads in a view."""
    seen = turned(payoff, view)
    frames = house.frames(session)
    ladder = Ladder(house.book, frames, side, view, ends_by(seen))
    papers = []
    for field, (_, _, place) in zip(ladder.fields, frames):
        field.need(place)
        rows = field.web.frame_rows(place)
        table = [(row, numbers_of(moved_by(field.packs[row], seen[-1]))) for row in rows]
        ranks = [(row, Ratio(-field.debts[row][1], field.debts[row][0])) for row in rows]
        papers.append((table, ranks))
    return number_there(house.book, frames, house.store_now(session), side, view, seen), papers


def is_paper_in(house, session, side, view, payoff, value):
    """Whether any value is a tuple (number, papers) that shows what the one who leads in a view forces."""
    frames = house.frames(session)
    webs = [house.book.web_at(unit, number, side, view) for unit, number, _ in frames]
    places = [place for _, _, place in frames]
    return is_claim(webs, places, house.store_now(session), turned(payoff, view), value)
