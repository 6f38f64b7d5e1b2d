"""Point 9, by walking every game in which one side moves as told."""

import unittest

from foxyard.playing import best_move
from foxyard.solving import solved
from helper import all_boards, all_lanes, drawn_boards, ended_by, one_way_path, one_way_ring, other, step, ways


def boards_walked():
    written = [one_way_path(5), one_way_path(7), one_way_ring(5), one_way_ring(7)]
    small = list(all_boards(2)) + list(all_boards(3))[::41]
    return small + drawn_boards(5, (3, 4, 5, 6, 7), 12) + written + [all_lanes(5, []), all_lanes(7, [6, 0])]


class Walk:
    """The games on a board in which one side moves as told and the other one in every way."""

    def __init__(self, board):
        self.board = board
        self.rows = solved(board)
        self.moves = {row[0]: row[3] for row in self.rows}
        self.ends = {row[0]: ended_by(board, row[0]) for row in self.rows}

    def behind_one_move(self, positions, side):
        found = set()
        for position in positions:
            if self.ends[position] is None:
                yards = [self.moves[position]] if position[2] == side else ways(self.board, position)
                found.update(step(position, yard) for yard in yards)
        return found


class TestWalks(unittest.TestCase):
    @classmethod
    def setUpClass(cls):
        cls.walks = [Walk(board) for board in boards_walked()]

    def rows(self, kinds):
        for walk in self.walks:
            for position, who, count, yard in walk.rows:
                if who in kinds:
                    yield walk, position, who, count

    def test_all_kinds_are_walked(self):
        met = {(who, position[2]) for walk, position, who, count in self.rows(("fox", "hen", "open")) if count != 0}
        self.assertEqual(len(met), 6)

    def test_each_move_told_is_one_along_a_lane(self):
        for walk, position, who, count in self.rows(("fox", "hen", "open")):
            if walk.ends[position] is None:
                self.assertIn(walk.moves[position], ways(walk.board, position))

    def test_the_winner_as_told_has_won_behind_no_more_moves(self):
        for walk, position, who, count in self.rows(("fox", "hen")):
            reached = {position}
            for made in range(count):
                self.assertTrue(all(walk.ends[place] in (None, who) for place in reached), (walk.board, position))
                reached = walk.behind_one_move(reached, who)
            self.assertTrue(all(walk.ends[place] == who for place in reached), (walk.board, position))

    def test_the_loser_as_told_has_not_lost_behind_fewer(self):
        for walk, position, who, count in self.rows(("fox", "hen")):
            reached = {position}
            for made in range(count):
                self.assertTrue(all(walk.ends[place] != who for place in reached), (walk.board, position))
                reached = walk.behind_one_move(reached, other(who))

    def test_at_an_open_position_a_side_as_told_is_never_beaten(self):
        for walk, position, who, count in self.rows(("open",)):
            for side in ("fox", "hen"):
                reached, fresh = {position}, {position}
                while fresh:
                    fresh = walk.behind_one_move(fresh, side) - reached
                    reached |= fresh
                self.assertTrue(all(walk.ends[place] != other(side) for place in reached), (walk.board, position))

    def test_best_move_tells_the_moves_walked(self):
        for walk in self.walks[::9]:
            for position in walk.moves:
                if walk.ends[position] is None:
                    self.assertEqual(best_move(walk.board, position), walk.moves[position])


if __name__ == "__main__":
    unittest.main()
