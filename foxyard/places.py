"""Positions: tuples (fox, hen, turn), their order, their moves, and where a game has ended."""

from foxyard.board import ways_from


def positions_of(board):
    found = []
    for fox in range(board[0]):
        for hen in range(board[0]):
            found.append((fox, hen, "fox"))
            found.append((fox, hen, "hen"))
    return found


def other_side(side):
    return "hen" if side == "fox" else "fox"


def lanes_ahead(board, position):
    # A lane leads from a yard whether or not the game goes on: winner asks here too.
    return ways_from(board, position[0] if position[2] == "fox" else position[1])


def moved(position, yard):
    if position[2] == "fox":
        return (yard, position[1], "hen")
    return (position[0], yard, "fox")


def winner(board, position):
    if position[0] == position[1]:
        return "fox"
    if position[1] in board[2]:
        return "hen"
    if not lanes_ahead(board, position):
        return other_side(position[2])
    return None
