import unittest

from foxyard.places import winner
from helper import SIDES, all_boards, all_positions, answer_of, drawn_boards, ended_by


class TestWinner(unittest.TestCase):
    def assert_winner(self, board, position, asked):
        with self.subTest(board=board, position=position):
            self.assertEqual(answer_of(winner, board, position), asked)

    def test_in_one_yard_the_fox_has_won(self):
        board = (2, [(0, 1), (1, 0)], [])
        for yard in (0, 1):
            for turn in SIDES:
                self.assert_winner(board, (yard, yard, turn), "fox")

    def test_in_a_coop_the_hen_has_won(self):
        board = (3, [(0, 1), (1, 2), (2, 0)], [2, 1])
        for turn in SIDES:
            self.assert_winner(board, (0, 1, turn), "hen")
            self.assert_winner(board, (0, 2, turn), "hen")
            self.assert_winner(board, (2, 1, turn), "hen")

    def test_the_fox_in_a_coop_has_not_ended_it(self):
        board = (2, [(0, 1), (1, 0)], [1])
        for turn in SIDES:
            self.assert_winner(board, (1, 0, turn), None)

    def test_without_a_lane_the_other_side_has_won(self):
        self.assert_winner((2, [(1, 0)], []), (0, 1, "fox"), "hen")
        self.assert_winner((2, [(0, 1)], []), (0, 1, "hen"), "fox")
        self.assert_winner((2, [], []), (1, 0, "fox"), "hen")
        self.assert_winner((2, [], []), (1, 0, "hen"), "fox")

    def test_a_lane_that_the_side_whose_turn_it_is_not_lacks_ends_nothing(self):
        self.assert_winner((2, [(0, 1)], []), (0, 1, "fox"), None)
        self.assert_winner((2, [(1, 0)], []), (0, 1, "hen"), None)

    def test_a_lane_to_the_yard_itself_is_a_lane(self):
        for turn in SIDES:
            self.assert_winner((2, [(0, 0), (1, 1)], []), (0, 1, turn), None)

    def test_a_lane_to_the_yard_is_none_from_it(self):
        self.assert_winner((3, [(2, 0), (1, 0), (1, 2)], []), (0, 1, "fox"), "hen")

    def test_in_one_yard_that_is_a_coop_the_fox_has_won(self):
        for turn in SIDES:
            self.assert_winner((2, [(0, 1), (1, 0)], [1, 0]), (1, 1, turn), "fox")

    def test_in_one_yard_without_a_lane_the_fox_has_won(self):
        for turn in SIDES:
            self.assert_winner((2, [(1, 0)], []), (0, 0, turn), "fox")
            self.assert_winner((1, [], []), (0, 0, turn), "fox")

    def test_in_a_coop_without_a_lane_the_hen_has_won(self):
        for turn in SIDES:
            self.assert_winner((2, [], [1]), (0, 1, turn), "hen")
            self.assert_winner((2, [(0, 1)], [1]), (0, 1, turn), "hen")
            self.assert_winner((2, [(1, 0)], [1]), (0, 1, turn), "hen")

    def test_where_all_three_hold_the_fox_has_won(self):
        for turn in SIDES:
            self.assert_winner((1, [], [0]), (0, 0, turn), "fox")
            self.assert_winner((3, [(0, 1)], [0, 2]), (2, 2, turn), "fox")

    def test_the_arguments_have_their_names(self):
        self.assertEqual(winner(board=(2, [], [1]), position=(0, 1, "fox")), "hen")

    def test_all_small_boards_and_some_larger_ones(self):
        boards = list(all_boards(1)) + list(all_boards(2)) + drawn_boards(1, (3, 4, 5, 6, 7, 9), 10)
        for board in boards:
            for position in all_positions(board[0]):
                self.assert_winner(board, position, ended_by(board, position))


if __name__ == "__main__":
    unittest.main()
