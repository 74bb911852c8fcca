"""Point 16: the fewest moves of loads that keep processors evenly loaded."""

import itertools
import unittest

from callbells.balance import fewest_moves, judge_moves, least_spread
from callbells.errors import InvalidMove, InvalidNumber

from helpers import ODD_VALUES, Case, Dice


def spread(loads, places, count):
    sums = [sum(load for load, place in zip(loads, places) if place == at) for at in range(count)]
    return max(sums) - min(sums)


def all_moves(loads, places, count):
    """All lists of moves, as differences between the places before and behind, and their spreads."""
    rows = []
    for behind in itertools.product(range(count), repeat=len(loads)):
        moves = [(at, place) for at, place in enumerate(behind) if place != places[at]]
        rows.append((len(moves), moves, spread(loads, behind, count)))
    return sorted(rows)


def thrown_loads(dice, most):
    count = 1 + dice.below(4)
    many = 1 + dice.below(most)
    loads = tuple([dice.below(9) for _ in range(many)])
    return loads, tuple([dice.below(count) for _ in range(many)]), count


class SearchTest(Case):
    def test_against_all_moves(self):
        dice = Dice(5)
        results = set()
        for _ in range(120):
            loads, places, count = thrown_loads(dice, 6)
            rows = all_moves(loads, places, count)
            for bound in (0, 1, 3, 8):
                found = [moves for _, moves, difference in rows if difference <= bound]
                result = fewest_moves(loads, places, count, bound)
                self.same(result, found[0] if found else None)
                results.add(None if result is None else len(result))
            for most in (0, 1, 2, 3, 7):
                least = min([difference for many, _, difference in rows if many <= most])
                self.same(least_spread(loads, places, count, most), least)
            for _, moves, difference in rows[::7]:
                self.same(judge_moves(loads, places, count, moves), difference)
                self.same(judge_moves(loads, places, count, moves[::-1]), difference)
        self.assertLessEqual({None, 0, 1, 2, 3}, results)

    def test_seven_loads(self):
        loads, places = (1, 2, 4, 8, 16, 32, 64), (0,) * 7
        self.same(fewest_moves(loads, places, 4, 7000), [])
        rows = all_moves(loads, places, 4)
        self.same(least_spread(loads, places, 4, 7), min([row[2] for row in rows]))
        self.same(fewest_moves(loads, places, 4, 63), [row[1] for row in rows if row[2] <= 63][0])

    def test_nothing_is_to_be_moved(self):
        self.same([fewest_moves((5, 1), (0, 1), 2, 4), fewest_moves((0,), (0,), 4, 0), fewest_moves((9, 9), (0, 0), 1, 0)], [[], [], []])
        self.same([fewest_moves((5, 1), (0, 1), 2, 3), least_spread((5, 1), (0, 1), 2, 7)], [None, 4])

    def test_the_first_one_in_list_order(self):
        self.same(fewest_moves((1, 1, 1), (0, 0, 0), 3, 0), [(0, 1), (1, 2)])
        self.same(fewest_moves((1, 1, 1), (2, 2, 2), 3, 0), [(0, 0), (1, 1)])
        self.same(fewest_moves((3, 3), (1, 1), 2, 0), [(0, 0)])

    def test_the_fewest_moves_go_first(self):
        self.same(fewest_moves((1, 1, 2), (0, 0, 0), 2, 0), [(2, 1)])

    def test_as_many_moves_as_there_may_be(self):
        self.same([least_spread((4, 3, 2), (0, 0, 0), 2, most) for most in range(4)], [9, 1, 1, 1])
        self.same([least_spread((1, 1, 1, 1), (0, 0, 0, 0), 4, most) for most in (0, 1, 2, 3, 7)], [4, 3, 2, 0, 0])

    def test_greatest_numbers(self):
        self.same(fewest_moves((1000,) * 7, (3,) * 7, 4, 7000), [])
        self.same(judge_moves((1000,) * 7, (3,) * 7, 4, []), 7000)
        self.same(fewest_moves((1000,) * 7, (3,) * 7, 4, 1000), [(0, 0), (1, 0), (2, 1), (3, 1), (4, 2)])

    def test_arguments_are_not_kept_or_changed(self):
        moves = [(1, 1), (2, 1)]
        self.same([judge_moves((5, 3, 2), (0, 0, 0), 2, moves), moves], [0, [(1, 1), (2, 1)]])
        found = fewest_moves((5, 3, 2), (0, 0, 0), 2, 0)
        found.append(None)
        self.same(fewest_moves((5, 3, 2), (0, 0, 0), 2, 0), [(0, 1)])


class NumberTest(Case):
    def wrong(self, loads=(5, 3), places=(0, 1), count=2, last=2):
        with self.subTest(args=(loads, places, count, last)):
            self.raises(InvalidNumber, fewest_moves, loads, places, count, last)
            self.raises(InvalidNumber, least_spread, loads, places, count, last)

    def wrong_first(self, loads=(5, 3), places=(0, 1), count=2):
        self.wrong(loads, places, count)
        with self.subTest(args=(loads, places, count)):
            self.raises(InvalidNumber, judge_moves, loads, places, count, [])
            # Moves are looked at last.
            self.raises(InvalidNumber, judge_moves, loads, places, count, [None])

    def test_loads(self):
        for loads in ((), (1,) * 8, [5, 3], (5, 1001), (-1, 3), (5, True), (5, None), (5, 3.0), ("5", 3), 5, None, "53"):
            self.wrong_first(loads=loads)
        self.wrong_first(loads=(1,) * 8, places=(0,) * 8)
        self.wrong_first(loads=(), places=())

    def test_places(self):
        for places in ((), (0,), (0, 1, 0), [0, 1], (0, 2), (-1, 0), (0, True), (0, None), (0.0, 1), ("0", 1), 0, None, "01"):
            self.wrong_first(places=places)
        self.wrong_first(places=(0, 1), count=1)

    def test_counts(self):
        for count in (0, *ODD_VALUES):
            self.wrong_first(count=count)
        self.wrong_first(count=5)

    def test_bounds(self):
        for bound in (7001, *ODD_VALUES):
            self.raises(InvalidNumber, fewest_moves, (5, 3), (0, 1), 2, bound)

    def test_numbers_of_moves(self):
        for most in (8, *ODD_VALUES):
            self.raises(InvalidNumber, least_spread, (5, 3), (0, 1), 2, most)


class MoveTest(Case):
    def wrong(self, index, *moves):
        with self.subTest(moves=moves):
            self.raises(InvalidMove, judge_moves, (5, 3, 2), (0, 1, 2), 3, list(moves), index=index)

    def test_any_order(self):
        self.same(judge_moves((5, 3, 2), (0, 1, 2), 3, [(2, 1), (0, 2)]), 5)

    def test_the_processor_where_it_is(self):
        self.wrong(0, (0, 0))
        self.wrong(1, (0, 1), (1, 1))

    def test_a_load_twice(self):
        self.wrong(1, (0, 1), (0, 2))
        self.wrong(1, (0, 1), (0, 0))
        self.wrong(2, (0, 1), (1, 0), (0, 2), (7, 7))

    def test_loads_and_processors_that_are_not_there(self):
        self.wrong(0, (3, 0))
        self.wrong(0, (-1, 0))
        self.wrong(0, (0, 3))
        self.wrong(1, (0, 1), (1, -1))

    def test_other_forms(self):
        for value in (*ODD_VALUES, [0, 1], (0,), (0, 1, 2), (True, 2), (0, True), (0.0, 1), (0, 1.0), ("0", 1), (0, "1"), (0, None), ((0,), 1)):
            self.wrong(0, value)
            self.wrong(1, (0, 1), value, value)


if __name__ == "__main__":
    unittest.main()
