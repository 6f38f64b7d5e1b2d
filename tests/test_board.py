import copy
import itertools
import unittest

from foxyard.board import check_board, ways_from
from foxyard.errors import BadYard, NoYards, TwiceTold, YardError

# More digits than Python writes out by itself.
HUGE = 10 ** 5000

SOUND_BOARDS = (
    (1, [], []),
    (1, [(0, 0)], []),
    (1, [(0, 0)], [0]),
    (1, [], [0]),
    (2, [(0, 1), (1, 0)], []),
    (2, [(1, 1), (0, 0), (1, 0), (0, 1)], [1, 0]),
    (3, [], [2, 0, 1]),
    (4, [(3, 1), (0, 2), (3, 0), (2, 2), (1, 3)], [3, 0]),
    (5, [(4, 0), (0, 4)], [4]),
    (7, [], []),
    (7, [(6, 0), (0, 6), (6, 6), (3, 5)], [6, 0, 3]),
    (7, list(itertools.product(range(7), repeat=2)), list(range(7))),
    (7, list(itertools.product(range(6, -1, -1), repeat=2)), list(range(6, -1, -1))),
)


def refusal_of(board):
    """The class of the refusal, None where there is none; fails where the board is changed."""
    kept = copy.deepcopy(board)
    lanes, coops = board[1], board[2]
    found = None
    try:
        answer = check_board(board)
    except YardError as error:
        found = type(error)
        if not isinstance(error, ValueError):
            raise AssertionError("a refusal is no ValueError")
    else:
        if answer is not None:
            raise AssertionError("a sound board gives something else than None")
    if board != kept or board[1] is not lanes or board[2] is not coops:
        raise AssertionError("the board is changed")
    return found


def refusal_asked(board):
    """What point 3 asks, word by word."""
    count, lanes, coops = board
    if count < 1:
        return NoYards
    yards = range(count)
    if not all(first in yards and second in yards for first, second in lanes):
        return BadYard
    if not all(coop in yards for coop in coops):
        return BadYard
    if any(lanes.count(lane) > 1 for lane in lanes) or any(coops.count(coop) > 1 for coop in coops):
        return TwiceTold
    return None


class BoardCase(unittest.TestCase):
    def assert_refusal(self, board, refusal):
        with self.subTest(board=str(board) if HUGE not in numbers_of(board) else "a very large number"):
            self.assertIs(refusal_of(board), refusal)


def numbers_of(board):
    told = [board[0]] + [number for lane in board[1] for number in lane] + board[2]
    return [abs(number) for number in told]


class TestSoundBoards(BoardCase):
    def test_sound_boards_give_none(self):
        for board in SOUND_BOARDS:
            self.assert_refusal(board, None)

    def test_the_argument_has_its_name(self):
        self.assertIsNone(check_board(board=(1, [], [])))

    def test_opposite_lanes_are_two(self):
        self.assert_refusal((2, [(0, 1), (1, 0)], []), None)
        self.assert_refusal((7, [(6, 2), (3, 3), (2, 6)], []), None)

    def test_lanes_that_share_a_yard_are_two(self):
        self.assert_refusal((3, [(0, 1), (0, 2), (1, 2)], []), None)

    def test_a_coop_may_be_a_yard_of_lanes(self):
        self.assert_refusal((2, [(0, 1), (1, 1)], [1, 0]), None)

    def test_more_than_seven_yards_are_not_refused(self):
        self.assert_refusal((8, [(7, 0), (0, 7)], [7]), None)
        lanes = list(itertools.product(range(23), repeat=2))[:500]
        self.assert_refusal((23, lanes, list(range(23))), None)

    def test_more_parts_than_five_hundred_are_not_refused(self):
        self.assert_refusal((23, list(itertools.product(range(23), repeat=2)), []), None)


class TestNoYards(BoardCase):
    COUNTS = (0, -1, -2, -7, -500, -HUGE)

    def test_a_count_below_one(self):
        for count in self.COUNTS:
            self.assert_refusal((count, [], []), NoYards)

    def test_ahead_of_wrong_numbers(self):
        for count in self.COUNTS:
            self.assert_refusal((count, [(0, 0)], []), NoYards)
            self.assert_refusal((count, [(-1, 9)], []), NoYards)
            self.assert_refusal((count, [], [0]), NoYards)
            self.assert_refusal((count, [(0, HUGE)], [-1, 9]), NoYards)

    def test_ahead_of_things_told_twice(self):
        for count in self.COUNTS:
            self.assert_refusal((count, [(0, 1), (0, 1)], []), NoYards)
            self.assert_refusal((count, [], [0, 0]), NoYards)
            self.assert_refusal((count, [(-1, 9), (-1, 9)], [9, 9]), NoYards)


class TestBadYard(BoardCase):
    COUNTS = (1, 2, 3, 7)

    def wrong_numbers(self, count):
        return (-1, -2, -count, count, count + 1, count + 500, HUGE, -HUGE)

    def test_in_a_lanes_first_place(self):
        for count in self.COUNTS:
            for wrong in self.wrong_numbers(count):
                for lanes in ([(wrong, 0)], [(wrong, 0), (0, 0)], [(0, 0), (wrong, 0)]):
                    self.assert_refusal((count, lanes, []), BadYard)
                    self.assert_refusal((count, lanes, [0]), BadYard)

    def test_in_a_lanes_second_place(self):
        for count in self.COUNTS:
            for wrong in self.wrong_numbers(count):
                for lanes in ([(0, wrong)], [(0, wrong), (0, 0)], [(0, 0), (0, wrong)]):
                    self.assert_refusal((count, lanes, []), BadYard)
                    self.assert_refusal((count, lanes, [0]), BadYard)

    def test_among_the_coops(self):
        for count in self.COUNTS:
            for wrong in self.wrong_numbers(count):
                for coops in ([wrong], [wrong, 0], [0, wrong]):
                    self.assert_refusal((count, [], coops), BadYard)
                    self.assert_refusal((count, [(0, 0)], coops), BadYard)

    def test_in_the_midst(self):
        self.assert_refusal((3, [(0, 1), (3, 1), (1, 2)], []), BadYard)
        self.assert_refusal((3, [(0, 1), (1, 3), (1, 2)], []), BadYard)
        self.assert_refusal((3, [], [0, 3, 1]), BadYard)

    def test_ahead_of_things_told_twice(self):
        for count in self.COUNTS:
            for wrong in self.wrong_numbers(count):
                for twice in ([(0, 0), (0, 0), (wrong, 0)], [(0, wrong), (0, 0), (0, 0)], [(wrong, 0), (wrong, 0)]):
                    self.assert_refusal((count, twice, []), BadYard)
                for twice in ([0, 0, wrong], [wrong, 0, 0], [wrong, wrong]):
                    self.assert_refusal((count, [], twice), BadYard)
                self.assert_refusal((count, [(0, 0), (0, 0)], [wrong]), BadYard)
                self.assert_refusal((count, [(0, wrong)], [0, 0]), BadYard)


class TestTwiceTold(BoardCase):
    def test_a_lane_side_by_side(self):
        self.assert_refusal((1, [(0, 0), (0, 0)], []), TwiceTold)
        self.assert_refusal((2, [(0, 1), (0, 1)], []), TwiceTold)
        self.assert_refusal((7, [(1, 2), (6, 3), (6, 3)], [0]), TwiceTold)

    def test_a_lane_apart(self):
        self.assert_refusal((2, [(0, 1), (1, 0), (0, 1)], []), TwiceTold)
        self.assert_refusal((7, [(6, 3), (0, 0), (3, 6), (1, 2), (6, 3)], [0, 1]), TwiceTold)

    def test_a_coop_side_by_side(self):
        self.assert_refusal((1, [], [0, 0]), TwiceTold)
        self.assert_refusal((7, [(0, 1)], [2, 6, 6]), TwiceTold)

    def test_a_coop_apart(self):
        self.assert_refusal((2, [], [0, 1, 0]), TwiceTold)
        self.assert_refusal((7, [(0, 1)], [6, 2, 0, 6]), TwiceTold)

    def test_both_and_more_than_twice(self):
        self.assert_refusal((2, [(0, 1), (0, 1)], [1, 1]), TwiceTold)
        self.assert_refusal((2, [(0, 1), (0, 1), (0, 1)], []), TwiceTold)
        self.assert_refusal((2, [], [1, 1, 1]), TwiceTold)

    def test_at_the_two_ends_of_five_hundred(self):
        lanes = list(itertools.product(range(23), repeat=2))[:499]
        self.assert_refusal((23, lanes + [(0, 0)], []), TwiceTold)


class TestAllSmallBoards(unittest.TestCase):
    def test_as_point_3_asks(self):
        numbers = (-1, 0, 1, 2)
        pairs = list(itertools.product(numbers, repeat=2))
        lane_lists = [list(lanes) for size in range(3) for lanes in itertools.product(pairs, repeat=size)]
        coop_lists = [list(coops) for size in range(3) for coops in itertools.product(numbers, repeat=size)]
        for board in itertools.product((-1, 0, 1, 2), lane_lists, coop_lists):
            asked = refusal_asked(board)
            if refusal_of(board) is not asked:
                self.fail(f"{board}: {refusal_of(board)} in the place of {asked}")


class TestWaysFrom(unittest.TestCase):
    def assert_ways(self, board, yard, ways):
        kept = copy.deepcopy(board)
        with self.subTest(board=board, yard=yard):
            found = ways_from(board, yard)
            self.assertIs(type(found), list)
            self.assertEqual(found, ways)
            self.assertEqual(board, kept)

    def test_no_lane(self):
        self.assert_ways((1, [], []), 0, [])
        self.assert_ways((3, [(0, 1), (1, 0)], [2]), 2, [])

    def test_lanes_to_the_yard_do_not_count(self):
        self.assert_ways((3, [(0, 2), (1, 2)], []), 2, [])
        self.assert_ways((3, [(0, 2), (2, 1), (1, 2)], []), 2, [1])

    def test_one_lane(self):
        self.assert_ways((2, [(0, 1)], []), 0, [1])
        self.assert_ways((7, [(5, 6), (6, 0), (0, 5)], []), 6, [0])

    def test_a_lane_to_itself(self):
        self.assert_ways((1, [(0, 0)], []), 0, [0])
        self.assert_ways((3, [(1, 2), (1, 1), (1, 0)], []), 1, [0, 1, 2])

    def test_rising_falling_and_mixed(self):
        for order in itertools.permutations((0, 2, 3, 5)):
            lanes = [(3, yard) for yard in order]
            self.assert_ways((7, lanes, []), 3, [0, 2, 3, 5])
        self.assert_ways((7, [(0, 6), (0, 5), (0, 4), (0, 3), (0, 2), (0, 1), (0, 0)], []), 0, [0, 1, 2, 3, 4, 5, 6])

    def test_numbers_rise_as_numbers_beyond_nine(self):
        self.assert_ways((12, [(0, 10), (0, 9), (0, 11), (0, 2)], []), 0, [2, 9, 10, 11])

    def test_other_yards_lanes_between(self):
        board = (4, [(2, 3), (0, 3), (2, 0), (3, 1), (0, 1), (2, 2)], [])
        self.assert_ways(board, 0, [1, 3])
        self.assert_ways(board, 1, [])
        self.assert_ways(board, 2, [0, 2, 3])
        self.assert_ways(board, 3, [1])

    def test_coops_change_nothing(self):
        self.assert_ways((3, [(0, 2), (0, 1)], [0, 1, 2]), 0, [1, 2])

    def test_all_yards_of_sound_boards(self):
        for board in SOUND_BOARDS:
            for yard in range(board[0]):
                self.assert_ways(board, yard, [other for other in range(board[0]) if (yard, other) in board[1]])

    def test_the_arguments_have_their_names(self):
        self.assertEqual(ways_from(board=(2, [(0, 1)], []), yard=0), [1])

    def test_a_change_of_the_answer_leaves_the_board_and_later_answers(self):
        board = (3, [(0, 2), (0, 1)], [])
        ways_from(board, 0).append(7)
        self.assert_ways(board, 0, [1, 2])
        self.assertEqual(board, (3, [(0, 2), (0, 1)], []))


if __name__ == "__main__":
    unittest.main()
