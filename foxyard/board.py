"""Boards: tuples (count, lanes, coops), their soundness, and the ways from a yard."""

from foxyard.errors import BadYard, NoYards, TwiceTold


def numbers_told(board):
    firsts = [lane[0] for lane in board[1]]
    seconds = [lane[1] for lane in board[1]]
    return firsts + seconds + board[2]


def holds_twice(parts):
    return len(set(parts)) < len(parts)


def check_board(board):
    # The words of a refusal hold no number: Python won't write out a very large one.
    count = board[0]
    if count < 1:
        raise NoYards("a board has at least one yard")
    for number in numbers_told(board):
        if number < 0 or number >= count:
            raise BadYard("a lane or a coop has a number that is none of a yard")
    if holds_twice(board[1]):
        raise TwiceTold("a lane is told twice")
    if holds_twice(board[2]):
        raise TwiceTold("a coop is told twice")


def ways_from(board, yard):
    return sorted([lane[1] for lane in board[1] if lane[0] == yard])
