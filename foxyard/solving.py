"""Verdicts: who wins a position, in how many moves, and by which move, worked out from the ends backwards."""

from foxyard.board import check_board
from foxyard.places import lanes_ahead, moved, other_side, positions_of, winner


def ended_positions(board):
    ended = {}
    for position in positions_of(board):
        side = winner(board, position)
        if side is not None:
            ended[position] = (side, 0)
    return ended


def positions_behind(board, ended):
    behind = {}
    for position in positions_of(board):
        if position not in ended:
            behind[position] = [moved(position, yard) for yard in lanes_ahead(board, position)]
    return behind


def side_that_wins(won, turn, behind):
    sides = [won[position][0] for position in behind if position in won]
    if turn in sides:
        return turn
    if len(sides) == len(behind):
        return other_side(turn)
    return None


def newly_won(won, behind):
    fresh = {}
    for position in behind:
        if position not in won:
            side = side_that_wins(won, position[2], behind[position])
            if side is not None:
                fresh[position] = side
    return fresh


def won_positions(board):
    won = ended_positions(board)
    behind = positions_behind(board, won)
    count = 1
    fresh = newly_won(won, behind)
    # Round n finds just the positions won in n moves: where the winner moves, the least count behind
    # the moves has come up first; where the loser moves, the greatest one has come up last.
    while fresh:
        for position in fresh:
            won[position] = (fresh[position], count)
        count = count + 1
        fresh = newly_won(won, behind)
    return won


def move_told(board, won, position):
    goal = None
    if position in won:
        if won[position][1] == 0:
            return None
        goal = (won[position][0], won[position][1] - 1)
    # The numbers of the yards rise, so the first move that fits leads to the least one.
    fitting = [yard for yard in lanes_ahead(board, position) if won.get(moved(position, yard)) == goal]
    return fitting[0]


def verdicts_on(board):
    check_board(board)
    won = won_positions(board)
    verdicts = {}
    for position in positions_of(board):
        standing = won.get(position, ("open", None))
        verdicts[position] = (standing[0], standing[1], move_told(board, won, position))
    return verdicts


def solved(board):
    verdicts = verdicts_on(board)
    return [(position,) + verdicts[position] for position in verdicts]
