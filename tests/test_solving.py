import unittest

from foxyard.errors import YardError
from foxyard.solving import solved
from helper import (
    UNSOUND_BOARDS, all_boards, all_lanes, all_positions, all_verdicts, answer_of, drawn_boards, ended_by, one_way_path,
    one_way_ring, other, step, ways,
)


class SolvedCase(unittest.TestCase):
    def verdicts(self, board):
        rows = answer_of(solved, board)
        self.assertIs(type(rows), list)
        for row in rows:
            self.assertIs(type(row), tuple)
            self.assertEqual(len(row), 4)
            self.assertIs(type(row[0]), tuple)
        self.assertEqual([row[0] for row in rows], all_positions(board[0]), board)
        return {row[0]: row[1:] for row in rows}


class TestWrittenOut(SolvedCase):
    def test_one_yard(self):
        for lanes in ([], [(0, 0)]):
            for coops in ([], [0]):
                rows = [((0, 0, "fox"), "fox", 0, None), ((0, 0, "hen"), "fox", 0, None)]
                self.assertEqual(answer_of(solved, (1, lanes, coops)), rows)

    def two_yards(self, lanes, coops, middle):
        first = [((0, 0, "fox"), "fox", 0, None), ((0, 0, "hen"), "fox", 0, None)]
        last = [((1, 1, "fox"), "fox", 0, None), ((1, 1, "hen"), "fox", 0, None)]
        self.assertEqual(answer_of(solved, (2, lanes, coops)), first + middle + last)

    def test_two_yards_without_lanes(self):
        self.two_yards([], [], [
            ((0, 1, "fox"), "hen", 0, None), ((0, 1, "hen"), "fox", 0, None),
            ((1, 0, "fox"), "hen", 0, None), ((1, 0, "hen"), "fox", 0, None),
        ])

    def test_two_yards_without_lanes_but_with_a_coop(self):
        self.two_yards([], [1], [
            ((0, 1, "fox"), "hen", 0, None), ((0, 1, "hen"), "hen", 0, None),
            ((1, 0, "fox"), "hen", 0, None), ((1, 0, "hen"), "fox", 0, None),
        ])

    def test_two_yards_with_one_lane(self):
        self.two_yards([(0, 1)], [], [
            ((0, 1, "fox"), "fox", 1, 1), ((0, 1, "hen"), "fox", 0, None),
            ((1, 0, "fox"), "hen", 0, None), ((1, 0, "hen"), "fox", 1, 1),
        ])

    def test_two_yards_with_lanes_to_themselves_alone(self):
        self.two_yards([(0, 0), (1, 1)], [], [
            ((0, 1, "fox"), "open", None, 0), ((0, 1, "hen"), "open", None, 1),
            ((1, 0, "fox"), "open", None, 1), ((1, 0, "hen"), "open", None, 0),
        ])

    def test_two_yards_with_all_lanes(self):
        self.two_yards([(1, 1), (1, 0), (0, 1), (0, 0)], [], [
            ((0, 1, "fox"), "fox", 1, 1), ((0, 1, "hen"), "fox", 2, 1),
            ((1, 0, "fox"), "fox", 1, 0), ((1, 0, "hen"), "fox", 2, 0),
        ])

    def test_two_yards_where_the_hen_waits_at_a_watched_coop(self):
        self.two_yards([(0, 0), (0, 1), (1, 1)], [1], [
            ((0, 1, "fox"), "hen", 0, None), ((0, 1, "hen"), "hen", 0, None),
            ((1, 0, "fox"), "open", None, 1), ((1, 0, "hen"), "open", None, 0),
        ])

    def test_three_yards_with_all_three_verdicts(self):
        verdicts = self.verdicts((3, [(2, 2), (1, 2), (1, 1), (0, 0)], [2]))
        asked = {
            (0, 1, "fox"): ("hen", 2, 0), (0, 1, "hen"): ("hen", 1, 2),
            (0, 2, "fox"): ("hen", 0, None), (0, 2, "hen"): ("hen", 0, None),
            (1, 0, "fox"): ("open", None, 1), (1, 0, "hen"): ("open", None, 0),
            (1, 2, "fox"): ("hen", 0, None), (1, 2, "hen"): ("hen", 0, None),
            (2, 0, "fox"): ("open", None, 2), (2, 0, "hen"): ("open", None, 0),
            (2, 1, "fox"): ("open", None, 2), (2, 1, "hen"): ("open", None, 1),
        }
        asked.update({(yard, yard, turn): ("fox", 0, None) for yard in range(3) for turn in ("fox", "hen")})
        self.assertEqual(verdicts, asked)

    def test_the_winner_hurries_and_the_loser_lingers(self):
        # The hen at 1 can go to the coop 3 at once, or by 2; the fox at 0 can only wait.
        verdicts = self.verdicts((4, [(0, 0), (1, 2), (1, 3), (2, 3)], [3]))
        self.assertEqual(verdicts[(0, 1, "hen")], ("hen", 1, 3))
        self.assertEqual(verdicts[(0, 1, "fox")], ("hen", 2, 0))
        # The hen at 1 is stuck at once at 2, and later by 3 and 4.
        verdicts = self.verdicts((5, [(0, 0), (1, 2), (1, 3), (3, 4)], []))
        self.assertEqual(verdicts[(0, 1, "hen")], ("fox", 4, 3))


class TestByFormula(SolvedCase):
    def test_one_way_paths(self):
        for count in (2, 3, 5, 7, 8):
            for position, verdict in self.verdicts(one_way_path(count)).items():
                with self.subTest(count=count, position=position):
                    self.assertEqual(verdict, self.on_a_path(count - 1, *position))

    def on_a_path(self, last, fox, hen, turn):
        here = fox if turn == "fox" else hen
        if fox == hen:
            return ("fox", 0, None)
        if here == last:
            return (other(turn), 0, None)
        if (turn == "fox" and hen == fox + 1) or (turn == "hen" and fox == hen + 1):
            return ("fox", 1, here + 1)
        if hen > fox:
            return ("fox", 2 * (last - hen) + (1 if turn == "fox" else 0), here + 1)
        return ("hen", 2 * (last - fox) + (1 if turn == "hen" else 0), here + 1)

    def test_one_way_rings(self):
        for count in (2, 3, 5, 7, 8):
            for position, verdict in self.verdicts(one_way_ring(count)).items():
                with self.subTest(count=count, position=position):
                    self.assertEqual(verdict, self.on_a_ring(count, *position))

    def on_a_ring(self, count, fox, hen, turn):
        here, there = (fox, hen) if turn == "fox" else (hen, fox)
        if fox == hen:
            return ("fox", 0, None)
        forward = (here + 1) % count
        return ("fox", 1, forward) if forward == there else ("open", None, forward)

    def test_all_lanes_without_coops(self):
        for count in (2, 3, 5, 7, 8):
            for (fox, hen, turn), verdict in self.verdicts(all_lanes(count, [])).items():
                with self.subTest(count=count, position=(fox, hen, turn)):
                    if fox == hen:
                        self.assertEqual(verdict, ("fox", 0, None))
                    elif turn == "fox":
                        self.assertEqual(verdict, ("fox", 1, hen))
                    else:
                        self.assertEqual(verdict, ("fox", 2, 1 if fox == 0 else 0))

    def test_all_lanes_with_two_coops(self):
        for count in (3, 5, 7, 8):
            coops = [count - 1, 1]
            for (fox, hen, turn), verdict in self.verdicts(all_lanes(count, coops)).items():
                with self.subTest(count=count, position=(fox, hen, turn)):
                    if fox == hen:
                        self.assertEqual(verdict, ("fox", 0, None))
                    elif hen in coops:
                        self.assertEqual(verdict, ("hen", 0, None))
                    elif turn == "fox":
                        self.assertEqual(verdict, ("fox", 1, hen))
                    else:
                        self.assertEqual(verdict, ("hen", 1, count - 1 if fox == 1 else 1))

    def test_without_lanes(self):
        for count in (3, 5, 7):
            for (fox, hen, turn), verdict in self.verdicts((count, [], [0])).items():
                who = "fox" if fox == hen else "hen" if hen == 0 else other(turn)
                self.assertEqual(verdict, (who, 0, None))

    def test_lanes_to_the_yards_themselves_alone(self):
        for count in (3, 5, 7):
            board = (count, [(yard, yard) for yard in range(count)], [])
            for (fox, hen, turn), verdict in self.verdicts(board).items():
                here = fox if turn == "fox" else hen
                self.assertEqual(verdict, ("fox", 0, None) if fox == hen else ("open", None, here))


class TestByTheRules(SolvedCase):
    def assert_rules(self, board):
        verdicts = self.verdicts(board)
        for position in verdicts:
            asked = self.asked(board, verdicts, position)
            if verdicts[position] != asked:
                self.fail(f"{board}, {position}: {verdicts[position]} in the place of {asked}")

    def asked(self, board, verdicts, position):
        """What points 7 and 8 say by the verdicts on the next positions."""
        ended = ended_by(board, position)
        if ended is not None:
            return (ended, 0, None)
        side = position[2]
        behind = {yard: verdicts[step(position, yard)][:2] for yard in ways(board, position)}
        gains = [count for who, count in behind.values() if who == side]
        losses = [count for who, count in behind.values() if who == other(side)]
        goal = ("open", None)
        if gains:
            goal = (side, min(gains))
        elif len(losses) == len(behind):
            goal = (other(side), max(losses))
        yard = min(yard for yard in behind if behind[yard] == goal)
        return (goal[0], None if goal[1] is None else goal[1] + 1, yard)

    def test_all_boards_with_one_yard_and_with_two(self):
        for count in (1, 2):
            for board in all_boards(count):
                self.assert_rules(board)
                self.assertEqual(self.verdicts(board), all_verdicts(board), board)

    def test_all_boards_with_three_yards(self):
        for board in all_boards(3):
            self.assert_rules(board)

    def test_drawn_boards(self):
        met = set()
        longest = 0
        for board in drawn_boards(2, (3, 4, 5, 6, 7), 25) + drawn_boards(3, (8, 9), 5):
            self.assert_rules(board)
            verdicts = self.verdicts(board)
            self.assertEqual(verdicts, all_verdicts(board), board)
            met.update((who, turn) for (fox, hen, turn), (who, count, yard) in verdicts.items() if yard is not None)
            longest = max([longest] + [count for who, count, yard in verdicts.values() if count is not None])
        # The boards drawn are such that a wrong rule would show.
        self.assertEqual(len(met), 6)
        self.assertGreater(longest, 6)


class TestTheCall(SolvedCase):
    def test_the_order_in_which_lanes_and_coops_are_told_changes_nothing(self):
        for count, lanes, coops in drawn_boards(4, (3, 5, 7), 5):
            rows = solved((count, lanes, coops))
            self.assertEqual(solved((count, sorted(lanes), sorted(coops))), rows)
            self.assertEqual(solved((count, sorted(lanes, reverse=True), sorted(coops, reverse=True))), rows)

    def test_unsound_boards_are_refused(self):
        for board, refusal in UNSOUND_BOARDS:
            with self.assertRaises(YardError) as caught:
                answer_of(solved, board)
            self.assertIs(type(caught.exception), refusal)

    def test_the_argument_has_its_name(self):
        self.assertEqual(len(solved(board=(2, [], []))), 8)

    def test_a_change_of_the_answer_leaves_later_answers(self):
        board = one_way_path(3)
        rows = solved(board)
        kept = list(rows)
        rows.clear()
        self.assertEqual(solved(board), kept)
        board[1].append((2, 0))
        self.assertNotEqual(solved(board), kept)


if __name__ == "__main__":
    unittest.main()
