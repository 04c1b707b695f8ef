"""Plans, families and values of the units of systems."""

from evenpatch.asked import need_payoff, need_side_of, need_store, need_unit_of, need_view
from evenpatch.duels import Duel
from evenpatch.errors import InvalidPlan
from evenpatch.papers import is_duel_paper
from evenpatch.prospects import Prospect
from evenpatch.workshop import Workshop


def corners_by(system, unit, store, side, view, plan):
    """The corners of what comes of a plan."""
    shop = shop_for(system, unit, store, side)
    need_view(view)
    web = shop.web_of(unit, side, view)
    prospect = Prospect(web, web.first(store))
    if not prospect.is_plan(plan):
        raise InvalidPlan(plan)
    picks = prospect.picks_of(plan)
    prospect.need_few(picks)
    return prospect.corners_by(picks, unit, store)


def families(system, unit, side, view):
    """For each store the family of a unit: the least sets of what comes of its plans."""
    need_unit_of(system, unit)
    need_side_of(system, side)
    need_view(view)
    return [[list(lots) for lots, plan in family] for family in Workshop(system).sets_of(unit, side, view)]


def value(system, unit, store, side, payoff):
    """What a side forces from a store."""
    return duel_for(system, unit, store, side, "S", payoff).worth_there()


def forced(system, unit, store, side, payoff):
    """The value with a plan of the side, a table and ranks that show that the side forces it."""
    return shown(duel_for(system, unit, store, side, "S", payoff), 1)


def held(system, unit, store, side, payoff):
    """The value with a plan of the enemy, a table and ranks that show that the side forces no more."""
    return shown(duel_for(system, unit, store, side, "T", payoff), -1)


def is_forced(system, unit, store, side, payoff, value):
    """Whether any value is a number with a plan, a table and ranks that show that the side forces as much."""
    prospect = prospect_for(system, unit, store, side, "S", payoff)
    return is_duel_paper(prospect, payoff, 1, value)


def is_held(system, unit, store, side, payoff, value):
    """Whether any value is a number with a plan, a table and ranks that show that the side forces no more."""
    prospect = prospect_for(system, unit, store, side, "T", payoff)
    return is_duel_paper(prospect, payoff, -1, value)


def shop_for(system, unit, store, side):
    """The workshop of a system, if unit, store and side are right."""
    need_unit_of(system, unit)
    shop = Workshop(system)
    need_store(shop.space, store)
    need_side_of(system, side)
    return shop


def prospect_for(system, unit, store, side, view, payoff):
    """The prospect from a store, if all arguments are right."""
    shop = shop_for(system, unit, store, side)
    need_payoff(shop.space, payoff)
    web = shop.web_of(unit, side, view)
    return Prospect(web, web.first(store))


def duel_for(system, unit, store, side, view, payoff):
    """The duel for a payoff from a store, led by the side in the view "S", by its enemy in the view "T"."""
    board = prospect_for(system, unit, store, side, view, payoff).full_board()
    if view == "S":
        return Duel(board, "A", payoff)
    return Duel(board, "B", [-item for item in payoff])


def shown(duel, sign):
    """The tuple (number, plan, table, ranks) of a duel, with the numbers multiplied by a sign."""
    rows = duel.board.rows
    table = [(row, number * sign) for row, number in zip(rows, duel.shown_table())]
    return duel.worth_there() * sign, duel.taken_plan(), table, list(zip(rows, duel.shown_ranks()))
