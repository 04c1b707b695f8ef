"""Judging papers of duels."""

from evenpatch.chains import mean_behind
from evenpatch.kinds import is_row_of, is_tuple_of
from evenpatch.ratios import Ratio, as_ratio, is_number


def is_duel_paper(prospect, payoff, sign, value):
    """Whether any value is a tuple (number, plan, table, ranks) that shows what a plan brings for a payoff.

    With the sign 1 the number is at most what the plan of the side forces, with the sign -1 at least what that of the
    enemy lets by.
    """
    if not is_tuple_of(value, 4) or not is_number(value[0]) or not prospect.is_plan(value[1]):
        return False
    board = prospect.full_board()
    numbers = row_numbers_of(value[2], board)
    ranks = row_numbers_of(value[3], board)
    if numbers is None or ranks is None or not all([rank.top >= 0 for rank in ranks]):
        return False
    worths = {row: number * sign for row, number in zip(board.sequence, numbers)}
    counts = {row: rank for row, rank in zip(board.sequence, ranks)}
    for outcome, item in enumerate(payoff):
        worths[-1 - outcome] = Ratio(item * sign)
        counts[-1 - outcome] = Ratio(0)
    picks = prospect.picks_of(value[1])
    for row, moves in board.tracks.items():
        taken = [moves[picks[row]]] if row in picks else moves
        for move in taken:
            if not goes_with(row, move, worths, counts, worths[board.never]):
                return False
    return as_ratio(value[0]) * sign == worths[board.place]


def row_numbers_of(value, board):
    """The Ratios of an ascending list of tuples (row, number), one for each row of a board; None if it is none."""
    if not is_row_of(value, len(board.rows)):
        return None
    for item, row in zip(value, board.rows):
        if not is_tuple_of(item, 2) or not board.is_named(item[0], row) or not is_number(item[1]):
            return None
    return [as_ratio(number) for row, number in value]


def goes_with(row, move, worths, counts, never):
    """Whether a move goes with numbers and ranks: more is behind it, or as much, and then the rank pays for the row."""
    whole = sum(list(move.values()))
    ahead = mean_behind(whole, move, worths) - worths[row]
    if ahead.top != 0:
        return ahead.top > 0
    cost = 1 if never.below(worths[row]) else 0
    return not counts[row].below(mean_behind(whole, move, counts) + cost)
