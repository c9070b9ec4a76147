"""Point [3]: the worths of places."""

import inspect
import random
import unittest

import samples
from stonesround.errors import BadPlace, BadWeb
from stonesround.worths import worth, worths


def least_missing(numbers):
    return min(set(range(len(numbers) + 1)) - set(numbers))


def can_get(web, numbers, place):
    """The number that the place can get now, by the words of the document, or None."""
    if place in numbers:
        return None
    least = least_missing([numbers[to] for to in web[place] if to in numbers])
    for to in web[place]:
        if to not in numbers and least not in [numbers.get(each) for each in web[to]]:
            return None
    return least


def plain_worths(web, dice):
    """The worths by giving one number after another, each time to any place that can get one."""
    numbers = {}
    while True:
        free = [place for place in range(len(web)) if can_get(web, numbers, place) is not None]
        if not free:
            break
        place = dice.choice(free)
        numbers[place] = can_get(web, numbers, place)
    return [
        numbers[place] if place in numbers else sorted({numbers[to] for to in web[place] if to in numbers})
        for place in range(len(web))
    ]


def renamed(web, names):
    """The same web with other counts for its places."""
    roads = {names[place]: sorted(names[to] for to in web[place]) for place in range(len(web))}
    return [roads[place] for place in range(len(web))]


class Numbers(unittest.TestCase):
    def test_arguments(self):
        self.assertEqual(list(inspect.signature(worths).parameters), ["web"])
        self.assertEqual(list(inspect.signature(worth).parameters), ["web", "place"])

    def test_no_roads(self):
        for many in (1, 2, 60):
            self.assertEqual(worths([[] for place in range(many)]), [0] * many)

    def test_lines(self):
        for many in (1, 2, 3, 59, 60):
            self.assertEqual(worths(samples.line(many)), [(many - 1 - place) % 2 for place in range(many)])

    def test_roads_to_all_places_before(self):
        for many in (1, 2, 3, 59, 60):
            self.assertEqual(worths(samples.backward(many)), list(range(many)))

    def test_roads_to_all_places_behind(self):
        for many in (1, 2, 3, 59, 60):
            self.assertEqual(worths(samples.onward(many)), list(range(many - 1, -1, -1)))

    def test_the_least_number_is_the_least_that_is_missing(self):
        self.assertEqual(worths([[], [0], [0, 1], [1], [2], [1, 2], [0, 2]]), [0, 1, 2, 0, 0, 0, 1])

    def test_a_road_back_to_0(self):
        # From place 1 a road leads on to place 2, whose number is the 0 that place 0 then gets.
        self.assertEqual(worths([[1], [0, 2], []]), [0, 1, 0])
        # Without that road there is no way back to a 0.
        self.assertEqual(worths([[1], [0], []]), [[], [], 0])

    def test_a_road_back_to_1(self):
        self.assertEqual(worths([[], [0], [0, 3], [1, 2]]), [0, 1, 1, 0])
        self.assertEqual(worths([[], [0], [0, 3], [1, 3]]), [0, 1, 1, [1]])

    def test_a_road_back_to_another_number_does_not_do(self):
        self.assertEqual(worths([[], [0], [0, 3], [0, 3]]), [0, 1, [0], [0]])
        self.assertEqual(worths([[], [0], [0, 1, 3], [1, 3]]), [0, 1, [0, 1], [1]])

    def test_each_of_the_places_without_a_number_must_have_a_road_back(self):
        self.assertEqual(worths([[], [1, 2], [0, 2]]), [0, [], [0]])
        self.assertEqual(worths([[], [2, 3], [0, 2], [0, 3]]), [0, 0, [0], [0]])
        self.assertEqual(worths([[], [2, 3], [0, 2], [3]]), [0, [], [0], []])

    def test_a_road_of_the_place_itself_to_the_number_does_not_do(self):
        self.assertEqual(worths([[1], [0, 1]]), [[], []])

    def test_a_number_that_is_given_lets_others_be_given(self):
        # Around the ring each number waits for the one before.
        web = [[1, 6], [2], [3, 6], [4], [5, 6], [0], []]
        self.assertEqual(worths(web), [1, 0, 1, 0, 1, 0, 0])

    def test_against_the_words_of_the_document(self):
        webs = [samples.web_of(number, many) for many in (1, 2, 3) for number in range(1 << many * many)]
        webs += [samples.web_of(number, 4) for number in range(0, 1 << 16, 61)]
        webs += [samples.mixed_web(seed, many, most) for seed in range(40) for many in (5, 7, 9) for most in (2, 3, 5)]
        for web in webs:
            self.assertEqual(worths(web), plain_worths(web, random.Random(1)), web)

    def test_in_whatever_turn_the_same(self):
        webs = [samples.mixed_web(seed, many, most) for seed in range(20) for many in (5, 8) for most in (2, 4)]
        for web in webs:
            told = worths(web)
            for seed in range(6):
                dice = random.Random(seed)
                self.assertEqual(told, plain_worths(web, dice), web)
                names = list(range(len(web)))
                dice.shuffle(names)
                again = worths(renamed(web, names))
                self.assertEqual(told, [again[names[place]] for place in range(len(web))], web)

    def test_large_webs(self):
        for web in samples.edge_webs():
            if len(web) > 5:
                names = list(range(len(web)))[::-1]
                again = worths(renamed(web, names))
                self.assertEqual(worths(web), again[::-1])
        for seed in range(4):
            for most in (2, 3, 6, 40):
                web = samples.mixed_web(seed, 60, most)
                self.assertEqual(worths(web), plain_worths(web, random.Random(seed)), web)


class Lists(unittest.TestCase):
    def test_roads_to_the_place_itself(self):
        for many in (1, 2, 60):
            self.assertEqual(worths([[place] for place in range(many)]), [[] for place in range(many)])

    def test_rings(self):
        for many in (1, 2, 3, 4, 59, 60):
            self.assertEqual(worths(samples.ring(many)), [[] for place in range(many)])

    def test_roads_to_all_places(self):
        for many in (1, 2, 60):
            self.assertEqual(worths(samples.full(many)), [[] for place in range(many)])

    def test_rising_and_none_twice(self):
        self.assertEqual(worths([[], [0], [0], [0, 1], [0, 1, 2, 3, 4]]), [0, 1, 1, 2, [0, 1, 2]])
        # Places that come first have the higher numbers.
        web = [[1, 2, 3], [2, 3], [3], [], [0, 1, 2, 3, 4], [0, 2, 5], [1, 3, 6]]
        self.assertEqual(worths(web), [3, 2, 1, 0, [0, 1, 2, 3], [1, 3], [0, 2]])

    def test_numbers_with_gaps(self):
        self.assertEqual(worths([[], [0], [0, 1], [0, 1, 2], [2, 4], [3, 5], [0, 3, 6]])[4:], [[2], [3], [0, 3]])

    def test_lists_of_places_without_a_number_do_not_count(self):
        self.assertEqual(worths([[], [0, 1], [1, 2]]), [0, [0], []])

    def test_a_number_beside_a_way_to_places_without_one(self):
        self.assertEqual(worths([[0, 1], [], [0]]), [[0], 0, 0])
        self.assertEqual(worths([[0, 1], [], [0, 1]]), [[0], 0, [0]])

    def test_the_longest_list(self):
        web = samples.backward(59) + [list(range(60))]
        self.assertEqual(worths(web), list(range(59)) + [list(range(59))])
        self.assertEqual(worth(web, 59), list(range(59)))

    def test_a_ring_with_a_way_out(self):
        self.assertEqual(worths([[1], [2], [0, 3], []]), [1, 0, 2, 0])
        self.assertEqual(worths([[1], [0, 2], [], [0, 1, 3]]), [0, 1, 0, [0, 1]])


class WhatIsTold(unittest.TestCase):
    def test_kinds(self):
        for web in samples.edge_webs():
            told = worths(web)
            self.assertIs(type(told), list)
            self.assertEqual(len(told), len(web))
            for each in told:
                self.assertIn(type(each), (int, list))
                if type(each) is list:
                    self.assertLessEqual({type(number) for number in each}, {int})
                    self.assertEqual(each, sorted(set(each)))

    def test_worth_is_one_of_the_worths(self):
        for web in samples.edge_webs():
            told = worths(web)
            for place in {0, 1 % len(web), len(web) // 2, len(web) - 1}:
                self.assertEqual(worth(web, place), told[place])
                self.assertIs(type(worth(web, place)), type(told[place]))


class Refusals(unittest.TestCase, samples.Checks):
    def test_webs_of_any_kind(self):
        for web in samples.bad_webs():
            self.assert_refused(BadWeb, worths, web)
            self.assert_refused(BadWeb, worth, web, 0)

    def test_places_of_any_kind(self):
        for web in ([[]], [[1], [0, 1]], samples.full(3), samples.line(59)):
            for place in samples.bad_places(web):
                self.assert_refused(BadPlace, worth, web, place)

    def test_the_edges_of_60_places(self):
        self.assertEqual(worth(samples.backward(60), 0), 0)
        self.assertEqual(worth(samples.backward(60), 59), 59)
        self.assert_refused(BadPlace, worth, samples.backward(60), 60)
        self.assert_refused(BadPlace, worth, samples.backward(60), -1)
        self.assert_refused(BadWeb, worths, samples.backward(61))
        self.assert_refused(BadWeb, worth, samples.backward(61), 0)
        self.assert_refused(BadWeb, worths, [])

    def test_web_before_place(self):
        for place in samples.bad_places([[]]):
            self.assert_refused(BadWeb, worth, [], place)
            self.assert_refused(BadWeb, worth, [[0, 0]], place)
            self.assert_refused(BadWeb, worth, None, place)


class NothingChanged(unittest.TestCase, samples.Checks):
    def test_what_is_handed_in_stays(self):
        for web in samples.edge_webs() + [[[1, 0], []], [[2]], [[0, 0]]]:
            self.assert_untouched(worths, web)
            self.assert_untouched(worth, web, 0)
            self.assert_untouched(worth, web, 99)

    def test_what_is_told_is_new(self):
        web = [[0, 1], [], [1, 2], [3]]
        first = worths(web)
        second = worths(web)
        self.assertEqual(first, [[0], 0, [0], []])
        lists = [first, first[0], first[2], first[3], second, second[0], second[2], second[3]]
        lists += [worth(web, 0), worth(web, 0), worth(web, 2), worth(web, 3), worth(web, 3)]
        lists += [web] + web
        self.assertEqual(len({id(each) for each in lists}), len(lists))
        first[0].append(9)
        first[3].append(9)
        first[1] = 7
        self.assertEqual(second, [[0], 0, [0], []])
        self.assertEqual(worths(web), [[0], 0, [0], []])
        self.assertEqual(web, [[0, 1], [], [1, 2], [3]])

    def test_empty_lists_are_not_one_and_the_same(self):
        told = worths(samples.ring(60))
        self.assertEqual(len({id(each) for each in told}), 60)

    def test_one_list_of_roads_for_several_places(self):
        roads = [0, 1]
        self.assertEqual(worths([roads, [], roads]), [[0], 0, [0]])
        self.assertEqual(roads, [0, 1])

    def test_the_same_lists_changed_are_answered_anew(self):
        web = [[1], []]
        self.assertEqual((worths(web), worth(web, 0)), ([1, 0], 1))
        web[1].append(0)
        self.assertEqual((worths(web), worth(web, 0)), ([[], []], []))
        web[0].clear()
        self.assertEqual((worths(web), worth(web, 0)), ([0, 1], 0))
        web.append([0, 1])
        self.assertEqual((worths(web), worth(web, 2)), ([0, 1, 2], 2))
        web[2].append(2)
        self.assertEqual((worths(web), worth(web, 2)), ([0, 1, [0, 1]], [0, 1]))
        web[2].append(2)
        self.assert_refused(BadWeb, worths, web)
        self.assert_refused(BadWeb, worth, web, 0)


if __name__ == "__main__":
    unittest.main()
