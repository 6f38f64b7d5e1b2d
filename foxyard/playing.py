"""Games played by the moves told, and moves judged by the verdicts."""

from foxyard.errors import AtAnEnd, NoLane
from foxyard.places import lanes_ahead, moved
from foxyard.solving import verdicts_on


def check_lane(board, position, yard):
    # As on an unsound board, the words of the refusal hold no number.
    if yard not in lanes_ahead(board, position):
        raise NoLane("no lane leads there from the yard of the side whose turn it is")


def best_move(board, position):
    yard = verdicts_on(board)[position][2]
    if yard is None:
        raise AtAnEnd("the game has ended, no move is told")
    return yard


def line_from(board, position):
    verdicts = verdicts_on(board)
    line = [position]
    seen = {}
    here = position
    while here not in seen and verdicts[here][2] is not None:
        seen[here] = True
        here = moved(here, verdicts[here][2])
        line.append(here)
    return line


def played(board, position, side, replies):
    verdicts = verdicts_on(board)
    game = [position]
    here = position
    used = 0
    while verdicts[here][2] is not None:
        if here[2] == side:
            here = moved(here, verdicts[here][2])
        elif used < len(replies):
            check_lane(board, here, replies[used])
            here = moved(here, replies[used])
            used = used + 1
        else:
            return game
        game.append(here)
    return game


def rank(side, who):
    if who == side:
        return 2
    return 1 if who == "open" else 0


def judgement(side, ahead, behind):
    if rank(side, behind[0]) < rank(side, ahead[0]):
        return "slip"
    if ahead[0] == "open" or behind[1] == ahead[1] - 1:
        return "best"
    return "slow" if ahead[0] == side else "hasty"


def judged(board, position, moves):
    verdicts = verdicts_on(board)
    judgements = []
    here = position
    for yard in moves:
        if verdicts[here][2] is None:
            raise AtAnEnd("the game has ended, but a move is left")
        check_lane(board, here, yard)
        behind = moved(here, yard)
        judgements.append(judgement(here[2], verdicts[here], verdicts[behind]))
        here = behind
    return judgements


def tally(board):
    verdicts = verdicts_on(board)
    sides = [verdict[0] for verdict in verdicts.values()]
    return (sides.count("fox"), sides.count("hen"), sides.count("open"))
