"""Point [4]: the answers and whether they show what they tell."""

import inspect
import unittest

import samples
from stonesround import answers
from stonesround.answers import Answer, Endless, Lost, Won
from stonesround.telling import told

# 0 and 1 go round, 2 is lost, 3 is won; from 4 one can go round or win.
WEB = [[1], [0], [], [2], [0, 2], [2, 3, 5]]


def expected(kind, web, stones, stone, place, known):
    """Whether a hand-made answer is as the document tells, by what all settings come to."""
    if kind is Lost:
        return known[tuple(stones)] == "lost"
    if stone not in range(len(stones)) or place not in web[stones[stone]]:
        return False
    now = known[tuple(stones)]
    then = known[tuple(samples.behind(stones, stone, place))]
    return (now, then) == (("won", "lost") if kind is Won else ("endless", "endless"))


class Classes(unittest.TestCase):
    def test_each_is_straight_under_answer(self):
        self.assertEqual(Answer.__bases__, (object,))
        for kind in (Lost, Won, Endless):
            self.assertEqual(kind.__bases__, (Answer,))

    def test_names(self):
        for name in ("Answer", "Lost", "Won", "Endless"):
            self.assertEqual(getattr(answers, name).__name__, name)
            self.assertEqual(getattr(answers, name).__module__, "stonesround.answers")

    def test_each_has_its_own_shows(self):
        for kind in (Lost, Won, Endless):
            self.assertIn("shows", vars(kind))
            self.assertEqual(list(inspect.signature(kind.shows).parameters), ["self", "web", "stones"])

    def test_arguments_are_the_fields(self):
        self.assertEqual(list(inspect.signature(Lost).parameters), [])
        self.assertEqual(vars(Lost()), {})
        for kind in (Won, Endless):
            self.assertEqual(list(inspect.signature(kind).parameters), ["stone", "place"])
            self.assertEqual(vars(kind(3, 5)), {"stone": 3, "place": 5})
            self.assertEqual(vars(kind(-samples.HUGE, samples.HUGE)), {"stone": -samples.HUGE, "place": samples.HUGE})


class Shows(unittest.TestCase):
    def test_lost(self):
        for stones in ([], [2], [3, 3], [2, 3, 2, 3], [2] * 20):
            self.assertIs(Lost().shows(WEB, stones), True)
        for stones in ([3], [0], [4], [2, 3], [0, 2], [0, 1], [4, 4], [3] * 19):
            self.assertIs(Lost().shows(WEB, stones), False)

    def test_won(self):
        self.assertIs(Won(0, 2).shows(WEB, [3]), True)
        self.assertIs(Won(0, 2).shows(WEB, [4]), True)
        self.assertIs(Won(0, 0).shows(WEB, [4]), False)
        self.assertIs(Won(1, 2).shows(WEB, [2, 3]), True)
        self.assertIs(Won(0, 2).shows(WEB, [2, 3]), False)
        # A push of lost stones, and one of endless ones.
        self.assertIs(Won(0, 2).shows(WEB, [3, 3]), False)
        self.assertIs(Won(0, 1).shows(WEB, [0]), False)

    def test_endless(self):
        self.assertIs(Endless(0, 1).shows(WEB, [0]), True)
        self.assertIs(Endless(0, 0).shows(WEB, [0]), False)
        self.assertIs(Endless(1, 2).shows(WEB, [0, 3]), True)
        self.assertIs(Endless(1, 0).shows(WEB, [3, 1]), True)

    def test_won_stones_are_not_endless_by_a_push_to_endless_ones(self):
        self.assertIs(Endless(0, 1).shows(WEB, [0]), True)
        self.assertIs(Endless(0, 0).shows(WEB, [4]), False)
        self.assertIs(Won(0, 2).shows(WEB, [4]), True)
        self.assertIs(Endless(0, 5).shows(WEB, [5]), False)

    def test_endless_stones_behind_a_push_that_lets_the_other_win(self):
        # The stone goes on for ever only if it is pushed back to its own place.
        web = [[0, 1], [2], []]
        self.assertIs(Endless(0, 0).shows(web, [0]), True)
        self.assertIs(Endless(0, 1).shows(web, [0]), False)
        self.assertIs(Won(0, 1).shows(web, [0]), False)
        self.assertIs(Lost().shows(web, [0]), False)

    def test_another_push_than_the_one_that_is_told(self):
        self.assertIs(Won(0, 2).shows(WEB, [5]), True)
        self.assertIs(Won(0, 3).shows(WEB, [5]), False)
        for stone in (0, 1, 2):
            self.assertIs(Won(stone, 2).shows(WEB, [3, 3, 3]), True)
            self.assertIs(Endless(stone, 1).shows(WEB, [0, 0, 0]), True)
        for place in (0, 1, 2):
            self.assertIs(Endless(0, place).shows(samples.full(3), [1]), True)
        for place in (0, 1):
            self.assertIs(Won(0, place).shows([[], [], [0, 1]], [2]), True)

    def test_a_push_to_a_greater_number_wins_too(self):
        web = [[1], [0, 2], [], [2]]
        # Place 1 has the worth 1, and the road to it leads from place 0, whose worth is 0.
        self.assertIs(Won(0, 1).shows(web, [0, 3]), True)
        self.assertIs(Won(1, 2).shows(web, [0, 3]), True)

    def test_all_pushes_of_small_webs(self):
        for web in samples.small_webs():
            for many in (0, 1, 2) if len(web) > 3 else (0, 1, 2, 3):
                known = samples.settled(web, many)
                for stones in samples.settings(web, many):
                    self.check_all_answers(web, stones, known)

    def check_all_answers(self, web, stones, known):
        self.assertIs(Lost().shows(web, stones), expected(Lost, web, stones, None, None, known), (web, stones))
        for stone in range(-1, len(stones) + 1):
            for place in range(-1, len(web) + 1):
                for kind in (Won, Endless):
                    shown = kind(stone, place).shows(web, stones)
                    self.assertIs(shown, expected(kind, web, stones, stone, place, known), (web, stones, stone, place))

    def test_of_three_kinds_just_one_shows(self):
        for web in samples.small_webs():
            for stones in samples.settings(web, 2):
                pushes = [(stone, place) for stone in (0, 1) for place in range(len(web))]
                kinds = [
                    Lost().shows(web, stones),
                    any(Won(*push).shows(web, stones) for push in pushes),
                    any(Endless(*push).shows(web, stones) for push in pushes),
                ]
                self.assertEqual(kinds.count(True), 1, (web, stones))


class PushesThatAreNotThere(unittest.TestCase):
    def test_numbers_of_any_size(self):
        # Also those that Python would take as counted from behind.
        for web, stones, stone, place, kind in (
            (WEB, [3], 0, 2, Won), (WEB, [0], 0, 1, Endless), (WEB, [2, 3], 1, 2, Won), ([[0]], [0], 0, 0, Endless),
            ([[0]], [0] * 20, 19, 0, Endless), (samples.backward(60), [59], 0, 0, Won),
        ):
            self.assertIs(kind(stone, place).shows(web, stones), True)
            others = (
                -1, -2, len(stones), len(stones) + 1, stone - len(stones), stone + len(stones), 60, 61, 1 << 64,
                samples.HUGE, -samples.HUGE,
            )
            for other in others:
                self.assertIs(kind(other, place).shows(web, stones), False)
                self.assertIs(kind(other, other).shows(web, stones), False)
            others = (
                -1, -2, len(web), len(web) + 1, place - len(web), place + len(web), 61, 1 << 64,
                samples.HUGE, -samples.HUGE,
            )
            for other in others:
                self.assertIs(kind(stone, other).shows(web, stones), False)

    def test_no_stones_at_all(self):
        for kind in (Won, Endless):
            for stone in (0, -1, 1, samples.HUGE, -samples.HUGE):
                for place in (0, -1, 1, samples.HUGE):
                    self.assertIs(kind(stone, place).shows(WEB, []), False)
                    self.assertIs(kind(stone, place).shows([[0]], []), False)

    def test_places_to_which_no_road_leads(self):
        self.assertIs(Won(0, 2).shows(WEB, [2]), False)
        self.assertIs(Won(0, 2).shows(WEB, [0]), False)
        self.assertIs(Won(0, 3).shows([[], [0], [1], []], [1]), False)
        self.assertIs(Endless(0, 0).shows(WEB, [0]), False)
        self.assertIs(Endless(0, 1).shows([[0], [1]], [0]), False)

    def test_true_and_false_are_no_numbers(self):
        self.assertIs(Won(0, 1).shows([[1], []], [0]), True)
        self.assertIs(Won(False, 1).shows([[1], []], [0]), False)
        self.assertIs(Won(0, True).shows([[1], []], [0]), False)
        self.assertIs(Endless(False, False).shows([[0]], [0]), False)


class FieldsAsTheyStand(unittest.TestCase):
    def test_fields_set_anew(self):
        answer = Won(0, 0)
        self.assertIs(answer.shows(WEB, [2, 4]), False)
        answer.stone = 1
        self.assertIs(answer.shows(WEB, [2, 4]), False)
        answer.place = 2
        self.assertIs(answer.shows(WEB, [2, 4]), True)
        answer.stone = samples.HUGE
        self.assertIs(answer.shows(WEB, [2, 4]), False)
        answer.stone = -1
        self.assertIs(answer.shows(WEB, [2, 4]), False)

    def test_fields_of_endless_set_anew(self):
        answer = Endless(0, 1)
        self.assertIs(answer.shows(WEB, [0, 3]), True)
        answer.place = 0
        self.assertIs(answer.shows(WEB, [0, 3]), False)
        answer.stone = 1
        self.assertIs(answer.shows(WEB, [0, 3]), False)
        answer.place = 2
        self.assertIs(answer.shows(WEB, [0, 3]), True)

    def test_fields_of_what_was_told_set_anew(self):
        answer = told(WEB, [3])
        self.assertIs(answer.shows(WEB, [3]), True)
        answer.place = 3
        self.assertIs(answer.shows(WEB, [3]), False)
        self.assertIs(told(WEB, [3]).shows(WEB, [3]), True)

    def test_other_webs_and_stones_than_those_it_was_told_of(self):
        answer = told(WEB, [3])
        self.assertIs(answer.shows(WEB, [3]), True)
        self.assertIs(answer.shows(WEB, [0]), False)
        self.assertIs(answer.shows([[], [], [2]], [2]), False)
        self.assertIs(answer.shows([[2], [], []], [0]), True)

    def test_asking_changes_no_field(self):
        for kind in (Won, Endless):
            for stone, place in ((0, 2), (1, 0), (-1, 99)):
                answer = kind(stone, place)
                answer.shows(WEB, [3, 0])
                self.assertEqual(vars(answer), {"stone": stone, "place": place})

    def test_the_same_lists_changed_are_answered_anew(self):
        web = [[1], []]
        stones = [0]
        answers_now = (Lost(), Won(0, 1), Endless(0, 1))
        self.assertEqual([each.shows(web, stones) for each in answers_now], [False, True, False])
        web[1].append(0)
        self.assertEqual([each.shows(web, stones) for each in answers_now], [False, False, True])
        web[1].clear()
        stones.append(0)
        self.assertEqual([each.shows(web, stones) for each in answers_now], [True, False, False])


class LargeOnes(unittest.TestCase, samples.Checks):
    def test_60_places_and_20_stones(self):
        web = samples.backward(60)
        stones = list(range(40, 60))
        total = 0
        for place in stones:
            total ^= place
        self.assertIs(Lost().shows(web, stones), total == 0)
        for stone, start in enumerate(stones):
            for place in range(60):
                wins = place < start and place == start ^ total
                self.assertIs(Won(stone, place).shows(web, stones), wins)
                self.assertIs(Endless(stone, place).shows(web, stones), False)

    def test_what_is_handed_in_stays(self):
        for web in samples.edge_webs()[:50]:
            stones = [0, len(web) - 1, len(web) // 2]
            for answer in (Lost(), Won(0, 0), Won(1, 1), Endless(0, 0), Endless(2, 1), Won(9, 9)):
                self.assert_untouched(answer.shows, web, stones)

    def test_somewhat_beyond_the_limits(self):
        # No refusal is told here.
        self.assertIs(Lost().shows(samples.backward(61), [60, 60]), True)
        self.assertIs(Won(0, 1).shows(samples.backward(62), [61, 1]), True)
        self.assertIs(Endless(21, 0).shows([[0]], [0] * 22), True)
        self.assertIs(Lost().shows([[]], [0] * 21), True)


if __name__ == "__main__":
    unittest.main()
