import unittest

from foxyard.errors import AtAnEnd, NoLane, YardError
from foxyard.playing import best_move, judged, line_from, played, tally
from helper import (
    HUGE, SIDES, UNSOUND_BOARDS, Draw, all_boards, all_lanes, all_positions, all_verdicts, answer_of, drawn_board,
    drawn_boards, ended_by, one_way_path, one_way_ring, other, step, ways,
)

# The fox at 0 can catch a hen at 1, or go off to 2, from where it never comes back.
PARTING = (3, [(0, 2), (0, 1), (1, 1), (2, 2)], [])
# The hen at 0 is safe from a fox at 1 as long as it waits there.
WATCHED = (2, [(0, 0), (0, 1), (1, 1)], [1])
# The fox at 0 can only wait; the hen at 1 can wait, or go to the coop.
WAITING = (3, [(2, 2), (1, 2), (1, 1), (0, 0)], [2])


class PlayingCase(unittest.TestCase):
    def assert_answer(self, function, arguments, asked):
        with self.subTest(arguments=arguments):
            found = answer_of(function, *arguments)
            self.assertIs(type(found), type(asked))
            self.assertEqual(found, asked)

    def assert_refused(self, refusal, function, *arguments):
        with self.assertRaises(YardError) as caught:
            answer_of(function, *arguments)
        self.assertIs(type(caught.exception), refusal)


class TestBestMove(PlayingCase):
    def test_written_out(self):
        self.assert_answer(best_move, (all_lanes(7, []), (3, 5, "fox")), 5)
        self.assert_answer(best_move, (all_lanes(7, []), (3, 5, "hen")), 0)
        self.assert_answer(best_move, (all_lanes(7, []), (0, 5, "hen")), 1)
        self.assert_answer(best_move, (PARTING, (0, 1, "fox")), 1)
        self.assert_answer(best_move, (WATCHED, (1, 0, "hen")), 0)
        self.assert_answer(best_move, (WAITING, (0, 1, "hen")), 2)

    def test_at_an_end_in_each_case(self):
        for turn in SIDES:
            self.assert_refused(AtAnEnd, best_move, PARTING, (1, 1, turn))
            self.assert_refused(AtAnEnd, best_move, (1, [], []), (0, 0, turn))
            self.assert_refused(AtAnEnd, best_move, WAITING, (0, 2, turn))
        self.assert_refused(AtAnEnd, best_move, one_way_path(3), (2, 0, "fox"))
        self.assert_refused(AtAnEnd, best_move, one_way_path(3), (0, 2, "hen"))

    def test_at_every_position(self):
        for board in list(all_boards(2)) + drawn_boards(11, (3, 5, 7), 2):
            verdicts = all_verdicts(board)
            for position in verdicts:
                if ended_by(board, position) is None:
                    self.assert_answer(best_move, (board, position), verdicts[position][2])
                else:
                    self.assert_refused(AtAnEnd, best_move, board, position)


class TestLineFrom(PlayingCase):
    def test_at_an_end(self):
        for turn in SIDES:
            self.assert_answer(line_from, ((1, [(0, 0)], []), (0, 0, turn)), [(0, 0, turn)])
            self.assert_answer(line_from, (WAITING, (0, 2, turn)), [(0, 2, turn)])
        self.assert_answer(line_from, (one_way_path(3), (2, 0, "fox")), [(2, 0, "fox")])

    def test_where_the_game_ends(self):
        self.assert_answer(line_from, (PARTING, (0, 1, "fox")), [(0, 1, "fox"), (1, 1, "hen")])
        line = [(0, 1, "fox"), (0, 1, "hen"), (0, 2, "fox")]
        self.assert_answer(line_from, (WAITING, line[0]), line)
        line = [(0, 2, "fox"), (1, 2, "hen"), (1, 3, "fox"), (2, 3, "hen"), (2, 4, "fox"), (3, 4, "hen")]
        self.assert_answer(line_from, (one_way_path(5), line[0]), line)

    def test_where_a_position_comes_twice(self):
        line = [(1, 0, "fox"), (1, 0, "hen"), (1, 0, "fox")]
        self.assert_answer(line_from, (WATCHED, line[0]), line)
        line = [(0, 2, "fox"), (1, 2, "hen"), (1, 0, "fox"), (2, 0, "hen"), (2, 1, "fox"), (0, 1, "hen"), (0, 2, "fox")]
        self.assert_answer(line_from, (one_way_ring(3), line[0]), line)

    def test_where_another_one_than_the_first_comes_twice(self):
        board = (5, [(0, 1), (1, 1), (2, 3), (3, 4), (4, 4)], [])
        line = [(0, 2, "fox"), (1, 2, "hen"), (1, 3, "fox"), (1, 3, "hen"), (1, 4, "fox"), (1, 4, "hen"), (1, 4, "fox")]
        self.assert_answer(line_from, (board, line[0]), line)

    def test_from_every_position(self):
        for board in list(all_boards(2)) + drawn_boards(12, (3, 5, 7), 2):
            verdicts = all_verdicts(board)
            for position in verdicts:
                line = [position]
                while ended_by(board, line[-1]) is None and line.count(line[-1]) == 1:
                    line.append(step(line[-1], verdicts[line[-1]][2]))
                self.assert_answer(line_from, (board, position), line)
                if verdicts[position][1] is not None:
                    self.assertEqual(len(line), verdicts[position][1] + 1)


class TestPlayed(PlayingCase):
    def test_for_the_fox(self):
        board = all_lanes(3, [])
        game = [(0, 1, "hen"), (0, 2, "fox"), (2, 2, "hen")]
        self.assert_answer(played, (board, game[0], "fox", [2]), game)
        self.assert_answer(played, (board, (0, 1, "hen"), "fox", [0]), [(0, 1, "hen"), (0, 0, "fox")])
        self.assert_answer(played, (board, (0, 1, "fox"), "fox", []), [(0, 1, "fox"), (1, 1, "hen")])

    def test_for_the_hen(self):
        game = [(0, 1, "fox"), (0, 1, "hen"), (0, 2, "fox")]
        self.assert_answer(played, (WAITING, game[0], "hen", [0]), game)
        self.assert_answer(played, (WAITING, game[1], "hen", []), game[1:])
        game = [(1, 0, "hen"), (1, 0, "fox"), (1, 0, "hen"), (1, 0, "fox")]
        self.assert_answer(played, (WATCHED, game[0], "hen", [1]), game)

    def test_the_replies_need_not_be_the_moves_told(self):
        game = [(0, 1, "fox"), (2, 1, "hen"), (2, 1, "fox"), (2, 1, "hen")]
        self.assert_answer(played, (PARTING, game[0], "hen", [2, 2]), game + [(2, 1, "fox")])

    def test_with_too_few_replies_the_game_is_left(self):
        game = [(1, 0, "fox"), (1, 0, "hen"), (1, 0, "fox"), (1, 0, "hen"), (1, 0, "fox"), (1, 0, "hen")]
        for many in range(3):
            self.assert_answer(played, (WATCHED, game[0], "fox", [0] * many), game[:2 * many + 2])
        self.assert_answer(played, (WATCHED, game[1], "fox", []), [game[1]])
        self.assert_answer(played, (WATCHED, game[0], "hen", []), [game[0]])

    def test_replies_left_over_are_not_looked_at(self):
        for left in ([0], [7], [-1, 3], [HUGE, 0]):
            for turn in SIDES:
                for side in SIDES:
                    game = [(0, 2, turn)]
                    self.assertEqual(answer_of(played, WAITING, game[0], side, left), game)
            game = [(0, 1, "hen"), (0, 0, "fox")]
            self.assertEqual(answer_of(played, all_lanes(3, []), game[0], "fox", [0] + left), game)
            game = [(0, 1, "fox"), (0, 1, "hen"), (0, 2, "fox")]
            self.assertEqual(answer_of(played, WAITING, game[0], "hen", [0] + left), game)
        self.assertEqual(answer_of(played, all_lanes(3, []), (0, 1, "fox"), "fox", [9]), [(0, 1, "fox"), (1, 1, "hen")])

    def test_a_reply_to_which_no_lane_leads(self):
        for wrong in (-1, -2, 2, 3, 7, HUGE, -HUGE):
            self.assert_refused(NoLane, played, WATCHED, (1, 0, "hen"), "fox", [wrong])
            self.assert_refused(NoLane, played, WATCHED, (1, 0, "fox"), "fox", [0, wrong])
            self.assert_refused(NoLane, played, WATCHED, (1, 0, "fox"), "fox", [0, wrong, 0])
            self.assert_refused(NoLane, played, WATCHED, (1, 0, "fox"), "hen", [wrong])
            self.assert_refused(NoLane, played, WATCHED, (1, 0, "hen"), "hen", [1, wrong])
        self.assert_refused(NoLane, played, WATCHED, (1, 0, "fox"), "hen", [0])
        self.assert_refused(NoLane, played, PARTING, (0, 1, "fox"), "hen", [0])

    def test_the_lanes_of_the_other_sides_yard_do_not_count(self):
        board = (4, [(0, 0), (0, 2), (1, 1), (1, 3), (2, 2), (3, 3)], [])
        self.assert_refused(NoLane, played, board, (0, 1, "fox"), "hen", [3])
        self.assert_refused(NoLane, played, board, (0, 1, "hen"), "fox", [2])

    def test_five_hundred_replies_and_more(self):
        for many in (500, 520):
            game = [(1, 0, "fox"), (1, 0, "hen")] * (many + 1)
            self.assertEqual(answer_of(played, WATCHED, (1, 0, "fox"), "fox", [0] * many), game)

    def test_many_games(self):
        draw = Draw(13)
        refused = 0
        for turn in range(400):
            board = drawn_board(draw, 2 + draw.below(6))
            verdicts = all_verdicts(board)
            places = [place for place in verdicts if ended_by(board, place) is None] or list(verdicts)
            position = places[draw.below(len(places))]
            side = SIDES[draw.below(2)]
            replies, game = self.drawn_game(draw, board, verdicts, position, side)
            if game is None:
                refused += 1
                self.assert_refused(NoLane, played, board, position, side, replies)
            else:
                self.assert_answer(played, (board, position, side, replies), game)
        self.assertGreater(refused, 20)
        self.assertLess(refused, 200)

    def drawn_game(self, draw, board, verdicts, position, side):
        """Replies, now and then one to which no lane leads, and the game as point 11 tells it, None where refused."""
        replies, game, wanted = [], [position], draw.below(8)
        while ended_by(board, game[-1]) is None:
            here = game[-1]
            if here[2] == side:
                yard = verdicts[here][2]
            elif len(replies) == wanted:
                return replies, game
            else:
                yards = ways(board, here)
                yard = draw.below(board[0]) if draw.below(6) == 0 else yards[draw.below(len(yards))]
                replies.append(yard)
                if yard not in yards:
                    return replies + [0] * draw.below(3), None
            game.append(step(here, yard))
        return replies + [board[0]] * draw.below(3), game


class TestJudged(PlayingCase):
    def test_no_moves(self):
        self.assert_answer(judged, (PARTING, (0, 1, "fox"), []), [])
        for turn in SIDES:
            self.assert_answer(judged, (PARTING, (1, 1, turn), []), [])
            self.assert_answer(judged, (WAITING, (0, 2, turn), []), [])

    def test_slip_from_winning_to_losing(self):
        self.assert_answer(judged, (all_lanes(7, [6]), (0, 1, "hen"), [1]), ["slip"])
        self.assert_answer(judged, (all_lanes(7, [6]), (0, 1, "hen"), [0]), ["slip"])
        self.assert_answer(judged, (all_lanes(7, [6]), (0, 1, "fox"), [0]), ["slip"])

    def test_slip_from_winning_to_open(self):
        self.assert_answer(judged, (PARTING, (0, 1, "fox"), [2]), ["slip"])

    def test_slip_from_open_to_losing(self):
        self.assert_answer(judged, (WATCHED, (1, 0, "hen"), [1]), ["slip"])

    def test_slow(self):
        self.assert_answer(judged, (all_lanes(3, []), (0, 1, "fox"), [0]), ["slow"])
        self.assert_answer(judged, (all_lanes(3, []), (0, 1, "fox"), [2]), ["slow"])
        self.assert_answer(judged, (WAITING, (0, 1, "hen"), [1]), ["slow"])

    def test_hasty(self):
        self.assert_answer(judged, (all_lanes(3, []), (0, 1, "hen"), [0]), ["hasty"])
        # The hen is stuck at once at 2; by 3 and 4 it would last longer.
        self.assert_answer(judged, ((5, [(0, 0), (1, 2), (1, 3), (3, 4)], []), (0, 1, "hen"), [2]), ["hasty"])

    def test_best(self):
        self.assert_answer(judged, (all_lanes(3, []), (0, 1, "fox"), [1]), ["best"])
        self.assert_answer(judged, (all_lanes(3, []), (0, 1, "hen"), [1]), ["best"])
        self.assert_answer(judged, (WATCHED, (1, 0, "fox"), [1]), ["best"])
        self.assert_answer(judged, (WATCHED, (1, 0, "hen"), [0]), ["best"])
        self.assert_answer(judged, (WAITING, (0, 1, "fox"), [0]), ["best"])

    def test_a_best_move_need_not_be_the_one_told(self):
        self.assert_answer(judged, (all_lanes(3, []), (0, 1, "hen"), [2]), ["best"])
        self.assert_answer(judged, (all_lanes(7, [6, 5]), (0, 1, "hen"), [6]), ["best"])
        self.assert_answer(judged, (WAITING, (1, 0, "fox"), [2]), ["best"])

    def test_one_after_the_other(self):
        self.assert_answer(judged, (all_lanes(3, []), (0, 1, "fox"), [0, 2, 1, 1]), ["slow", "best", "slow", "hasty"])
        self.assert_answer(judged, (PARTING, (0, 1, "fox"), [2, 1, 2, 1]), ["slip", "best", "best", "best"])
        self.assert_answer(judged, (WATCHED, (1, 0, "fox"), [1, 0, 1, 1]), ["best", "best", "best", "slip"])
        self.assert_answer(judged, (WAITING, (0, 1, "hen"), [1, 0, 1, 0, 2]), ["slow", "best", "slow", "best", "best"])

    def test_a_move_left_where_the_game_has_ended(self):
        for left in ([0], [1], [9], [-1], [HUGE], [1, 1]):
            for turn in SIDES:
                self.assert_refused(AtAnEnd, judged, PARTING, (1, 1, turn), left)
                self.assert_refused(AtAnEnd, judged, WAITING, (0, 2, turn), left)
            self.assert_refused(AtAnEnd, judged, one_way_path(3), (2, 0, "fox"), left)
            self.assert_refused(AtAnEnd, judged, PARTING, (0, 1, "fox"), [1] + left)
            self.assert_refused(AtAnEnd, judged, WAITING, (0, 1, "fox"), [0, 2] + left)

    def test_a_move_to_which_no_lane_leads(self):
        for wrong in (-1, -2, 2, 3, 7, HUGE, -HUGE):
            self.assert_refused(NoLane, judged, WATCHED, (1, 0, "hen"), [wrong])
            self.assert_refused(NoLane, judged, WATCHED, (1, 0, "fox"), [wrong])
            self.assert_refused(NoLane, judged, WATCHED, (1, 0, "fox"), [1, 0, wrong])
            self.assert_refused(NoLane, judged, WATCHED, (1, 0, "fox"), [1, wrong, 0])
        self.assert_refused(NoLane, judged, WATCHED, (1, 0, "fox"), [0])
        self.assert_refused(NoLane, judged, PARTING, (0, 1, "fox"), [0])

    def test_the_first_refusal_counts(self):
        self.assert_refused(NoLane, judged, PARTING, (0, 1, "fox"), [0, 1, 1, 1])
        self.assert_refused(AtAnEnd, judged, PARTING, (0, 1, "fox"), [1, 0, 9])

    def test_five_hundred_moves_and_more(self):
        for many in (500, 520):
            self.assertEqual(answer_of(judged, WATCHED, (1, 0, "fox"), [1, 0] * (many // 2)), ["best"] * many)

    def test_every_single_move(self):
        met = set()
        for board in list(all_boards(2)) + drawn_boards(14, (3, 4, 5), 4) + drawn_boards(15, (7,), 2):
            verdicts = all_verdicts(board)
            for position in all_positions(board[0]):
                for yard in range(-1, board[0] + 1):
                    if ended_by(board, position) is not None:
                        self.assert_refused(AtAnEnd, judged, board, position, [yard])
                    elif yard not in ways(board, position):
                        self.assert_refused(NoLane, judged, board, position, [yard])
                    else:
                        word = self.word(position[2], verdicts[position], verdicts[step(position, yard)])
                        met.add((word, position[2]))
                        self.assert_answer(judged, (board, position, [yard]), [word])
        self.assertEqual(len(met), 8)

    def word(self, side, ahead, behind):
        order = (other(side), "open", side)
        if order.index(behind[0]) < order.index(ahead[0]):
            return "slip"
        fewer = ahead[1] is not None and (behind[0], behind[1]) == (ahead[0], ahead[1] - 1)
        if ahead[0] == side and not fewer:
            return "slow"
        if ahead[0] == other(side) and not fewer:
            return "hasty"
        return "best"


class TestTally(PlayingCase):
    def test_written_out(self):
        self.assert_answer(tally, ((1, [], []),), (2, 0, 0))
        self.assert_answer(tally, ((1, [(0, 0)], [0]),), (2, 0, 0))
        self.assert_answer(tally, ((2, [], []),), (6, 2, 0))
        self.assert_answer(tally, ((2, [], [1]),), (5, 3, 0))
        self.assert_answer(tally, ((2, [(0, 0), (1, 1)], []),), (4, 0, 4))
        self.assert_answer(tally, (WAITING,), (6, 6, 6))
        self.assert_answer(tally, (all_lanes(7, []),), (98, 0, 0))
        self.assert_answer(tally, (one_way_ring(7),), (28, 0, 70))

    def test_many_boards(self):
        for board in list(all_boards(2)) + drawn_boards(16, (3, 4, 5, 6, 7), 5):
            sides = [verdict[0] for verdict in all_verdicts(board).values()]
            self.assert_answer(tally, (board,), (sides.count("fox"), sides.count("hen"), sides.count("open")))


class TestTheCalls(PlayingCase):
    def test_unsound_boards_are_refused_ahead_of_all_else(self):
        for board, refusal in UNSOUND_BOARDS:
            self.assert_refused(refusal, tally, board)
            for position in ((0, 0, "fox"), (1, 1, "hen"), (0, 1, "fox"), (1, 0, "hen"), (9, 8, "fox")):
                self.assert_refused(refusal, best_move, board, position)
                self.assert_refused(refusal, line_from, board, position)
                for moves in ([], [0], [1, 1], [-1], [9], [HUGE]):
                    self.assert_refused(refusal, judged, board, position, moves)
                    for side in SIDES:
                        self.assert_refused(refusal, played, board, position, side, moves)

    def test_the_arguments_have_their_names(self):
        board, position = WAITING, (0, 1, "hen")
        self.assertEqual(best_move(board=board, position=position), 2)
        self.assertEqual(line_from(board=board, position=position), [position, (0, 2, "fox")])
        self.assertEqual(played(board=board, position=position, side="fox", replies=[]), [position])
        self.assertEqual(judged(board=board, position=position, moves=[2]), ["best"])
        self.assertEqual(tally(board=board), (6, 6, 6))

    def test_a_change_of_an_answer_leaves_later_answers(self):
        for function, rest in ((line_from, ()), (played, ("hen", [0])), (judged, ([0, 2],))):
            arguments = (WAITING, (0, 1, "fox")) + rest
            answer = function(*arguments)
            kept = list(answer)
            answer.clear()
            self.assertEqual(function(*arguments), kept)


if __name__ == "__main__":
    unittest.main()
