"""What several test files need: boards, and the document's rules worked out in another way than the package does."""

import copy
import itertools

from foxyard.errors import BadYard, NoYards, TwiceTold

# More digits than Python writes out by itself.
HUGE = 10 ** 5000

SIDES = ("fox", "hen")

UNSOUND_BOARDS = (
    ((0, [], []), NoYards),
    ((-1, [], []), NoYards),
    ((-HUGE, [], []), NoYards),
    ((0, [(0, 0)], []), NoYards),
    ((0, [(0, 1), (0, 1)], [0, 0]), NoYards),
    ((-3, [(-1, 9), (-1, 9)], [9, 9]), NoYards),
    ((2, [(2, 0)], []), BadYard),
    ((2, [(-1, 0)], []), BadYard),
    ((2, [(0, 1), (1, 2)], []), BadYard),
    ((2, [(0, 1), (1, -1)], []), BadYard),
    ((2, [(0, 1)], [2]), BadYard),
    ((2, [(0, 1)], [0, -1]), BadYard),
    ((2, [(0, 1), (0, HUGE)], []), BadYard),
    ((1, [], [1]), BadYard),
    ((2, [(0, 1), (0, 1), (1, 2)], []), BadYard),
    ((2, [(0, 1), (0, 1)], [0, 0, 2]), BadYard),
    ((2, [(2, 0), (2, 0)], [1, 1]), BadYard),
    ((2, [(0, 1), (0, 1)], []), TwiceTold),
    ((2, [(0, 1), (1, 0), (0, 1)], []), TwiceTold),
    ((1, [(0, 0), (0, 0)], []), TwiceTold),
    ((2, [(0, 1)], [1, 1]), TwiceTold),
    ((2, [(0, 1)], [1, 0, 1]), TwiceTold),
    ((2, [(0, 1), (0, 1)], [1, 1]), TwiceTold),
)


def answer_of(function, *arguments):
    """The answer of a call; fails where what is handed in is another thing behind it than it was."""
    kept = copy.deepcopy(arguments)
    try:
        return function(*arguments)
    finally:
        if arguments != kept:
            raise AssertionError("what was handed in is changed")


def all_boards(count):
    """Every sound board with that many yards, but for the order in which lanes and coops are told."""
    pairs = list(itertools.product(range(count), repeat=2))
    for lanes in parts_of(pairs):
        for coops in parts_of(list(range(count))):
            yield (count, lanes, coops)


def parts_of(whole):
    for chosen in itertools.product((False, True), repeat=len(whole)):
        yield [part for part, taken in zip(whole, chosen) if taken]


class Draw:
    """Numbers that are the same on every run and on every Python."""

    def __init__(self, seed):
        self.state = seed

    def below(self, bound):
        self.state = (self.state * 6364136223846793005 + 1442695040888963407) % 2 ** 64
        return (self.state >> 33) % bound


def drawn_board(draw, count):
    """A board with few or many lanes, told in no order, with none, one or some coops."""
    wanted = 1 + draw.below(9)
    pairs = [pair for pair in itertools.product(range(count), repeat=2) if draw.below(10) < wanted]
    coops = [yard for yard in range(count) if draw.below(count) == 0]
    for parts in (pairs, coops):
        for last in range(len(parts) - 1, 0, -1):
            other = draw.below(last + 1)
            parts[last], parts[other] = parts[other], parts[last]
    return (count, pairs, coops)


def drawn_boards(seed, counts, each):
    draw = Draw(seed)
    return [drawn_board(draw, count) for count in counts for turn in range(each)]


def all_positions(count):
    return list(itertools.product(range(count), range(count), SIDES))


def other(side):
    return SIDES[1 - SIDES.index(side)]


def ways(board, position):
    """The yards to which the side whose turn it is has lanes, rising."""
    here = position[SIDES.index(position[2])]
    return [yard for yard in range(board[0]) if (here, yard) in board[1]]


def step(position, yard):
    fox, hen, turn = position
    return (yard, hen, "hen") if turn == "fox" else (fox, yard, "fox")


def ended_by(board, position):
    """Point 5: who has won, None where the game goes on."""
    fox, hen, turn = position
    cases = ((fox == hen, "fox"), (hen in board[2], "hen"), (not ways(board, position), other(turn)))
    return next((side for holds, side in cases if holds), None)


def can_win_within(board):
    """For each side a list: the positions from which it can have won behind nought, one, two .. moves at most."""
    positions = all_positions(board[0])
    ends = {position: ended_by(board, position) for position in positions}
    nexts = {position: [step(position, yard) for yard in ways(board, position)] for position in positions}
    found = {}
    for side in SIDES:
        levels = [{position for position in positions if ends[position] == side}]
        while len(levels) < 2 or levels[-1] != levels[-2]:
            last = levels[-1]
            going_on = [position for position in positions if ends[position] is None]
            chosen = [p for p in going_on if p[2] == side and any(behind in last for behind in nexts[p])]
            forced = [p for p in going_on if p[2] != side and all(behind in last for behind in nexts[p])]
            levels.append(last | set(chosen) | set(forced))
        found[side] = levels
    return found


def all_verdicts(board):
    """Point 7 and 8: a dict from each position to (who, count, yard)."""
    levels = can_win_within(board)
    standing = {}
    for position in all_positions(board[0]):
        standing[position] = ("open", None)
        for side in SIDES:
            for count in range(len(levels[side]) - 1, -1, -1):
                if position in levels[side][count]:
                    standing[position] = (side, count)
    return {position: standing[position] + (told(board, standing, position),) for position in standing}


def told(board, standing, position):
    if ended_by(board, position) is not None:
        return None
    who, count = standing[position]
    goal = (who, count if count is None else count - 1)
    return min(yard for yard in ways(board, position) if standing[step(position, yard)] == goal)


def one_way_path(count):
    return (count, [(yard, yard + 1) for yard in range(count - 1)], [])


def one_way_ring(count):
    return (count, [(yard, (yard + 1) % count) for yard in range(count)], [])


def all_lanes(count, coops):
    """All lanes, those to the yard itself too, told from the last one to the first."""
    return (count, list(itertools.product(range(count - 1, -1, -1), repeat=2)), coops)
