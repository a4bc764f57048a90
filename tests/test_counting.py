import copy
import random
import unittest

from scriberow.counting import (
    best_of,
    first_settled,
    free_place,
    is_most,
    next_number,
    scribe_of,
    settled_in,
)

NINETY = 10**89 + 7
HUNDRED = 10**100 - 1


class IsMost(unittest.TestCase):
    def test_one_scribe_alone(self):
        self.assertIs(is_most(1, 0), False)
        self.assertIs(is_most(1, 1), True)

    def test_two_scribes_need_both(self):
        self.assertEqual([is_most(2, many) for many in range(3)], [False, False, True])

    def test_even_count_at_half_and_one_more(self):
        for count in range(2, 102, 2):
            self.assertIs(is_most(count, count // 2), False, count)
            self.assertIs(is_most(count, count // 2 + 1), True, count)

    def test_odd_count_below_and_above_half(self):
        for count in range(1, 102, 2):
            self.assertIs(is_most(count, count // 2), False, count)
            self.assertIs(is_most(count, count // 2 + 1), True, count)

    def test_none_and_all(self):
        for count in range(1, 101):
            self.assertIs(is_most(count, 0), False, count)
            self.assertIs(is_most(count, count), True, count)


class Numbers(unittest.TestCase):
    def test_nothing_seen_so_far(self):
        for count in (1, 2, 3, 13, 100):
            for scribe in range(count):
                self.assertEqual(next_number(count, scribe, -1), scribe)

    def test_one_scribe_alone_has_every_number(self):
        self.assertEqual([next_number(1, 0, seen) for seen in range(-1, 4)], [0, 1, 2, 3, 4])
        self.assertEqual(scribe_of(1, NINETY), 0)

    def test_ordinary(self):
        self.assertEqual([next_number(3, 1, seen) for seen in range(-1, 8)], [1, 1, 4, 4, 4, 7, 7, 7, 10])
        self.assertEqual([scribe_of(3, number) for number in range(7)], [0, 1, 2, 0, 1, 2, 0])

    def test_own_number_seen_is_not_given_again(self):
        self.assertEqual(next_number(5, 2, 2), 7)
        self.assertEqual(next_number(5, 0, 0), 5)
        self.assertEqual(next_number(5, 4, 4), 9)

    def test_is_the_least_own_number_above_the_one_seen(self):
        for count in range(1, 8):
            for scribe in range(count):
                for seen in range(-1, 4 * count):
                    plain = min(n for n in range(seen + 1, seen + 1 + count) if n % count == scribe)
                    self.assertEqual(next_number(count, scribe, seen), plain, (count, scribe, seen))

    def test_numbers_of_ninety_and_a_hundred_figures(self):
        for seen in (NINETY, HUNDRED, HUNDRED - 1):
            for count in (1, 2, 13, 97, 100):
                for scribe in (0, count // 2, count - 1):
                    number = next_number(count, scribe, seen)
                    self.assertTrue(seen < number <= seen + count)
                    self.assertEqual(scribe_of(count, number), scribe)
        self.assertEqual(next_number(10, 7, NINETY), NINETY + 10)
        self.assertEqual(next_number(10, 8, NINETY), NINETY + 1)
        self.assertEqual(next_number(10, 6, NINETY), NINETY + 9)
        self.assertEqual(scribe_of(100, HUNDRED), 99)


class BestOf(unittest.TestCase):
    def test_no_rows_and_empty_rows(self):
        self.assertEqual(best_of([]), {})
        self.assertEqual(best_of([{}]), {})
        self.assertEqual(best_of([{}, {}]), {})

    def test_greatest_number_at_each_place_wherever_it_stands(self):
        rows = [
            {0: (4, "ash"), 1: (1, "oak")},
            {0: (2, "elm"), 1: (9, "fir")},
            {1: (5, "yew"), 7: (0, "bay")},
        ]
        best = {0: (4, "ash"), 1: (9, "fir"), 7: (0, "bay")}
        self.assertEqual(best_of(rows), best)
        self.assertEqual(best_of(rows[::-1]), best)

    def test_number_outweighs_the_saying(self):
        self.assertEqual(best_of([{3: (10, "a")}, {3: (9, "z")}]), {3: (10, "a")})

    def test_number_nought_and_an_empty_saying(self):
        self.assertEqual(best_of([{0: (0, "")}]), {0: (0, "")})
        self.assertEqual(best_of([{0: (0, "")}, {0: (1, "a")}]), {0: (1, "a")})

    def test_the_same_tuple_in_two_rows(self):
        self.assertEqual(best_of([{2: (6, "oak")}, {2: (6, "oak")}]), {2: (6, "oak")})

    def test_numbers_of_ninety_figures(self):
        rows = [{5: (NINETY, "low")}, {5: (NINETY + 1, "high")}, {5: (9, "least")}]
        self.assertEqual(best_of(rows), {5: (NINETY + 1, "high")})

    def test_what_is_handed_in_stays_and_is_not_kept(self):
        rows = [{0: (1, "a"), 2: (3, "b")}, {0: (2, "c")}]
        before = copy.deepcopy(rows)
        best = best_of(rows)
        self.assertEqual(rows, before)
        best[0] = (99, "z")
        best[5] = (99, "z")
        self.assertEqual(rows, before)
        best = best_of(rows)
        rows[0][2] = (8, "later")
        rows[1].clear()
        rows.clear()
        self.assertEqual(best, {0: (2, "c"), 2: (3, "b")})

    def test_one_row_alone_is_copied(self):
        row = {0: (1, "a")}
        best = best_of([row])
        best[1] = (1, "b")
        self.assertEqual(row, {0: (1, "a")})
        row[0] = (2, "later")
        self.assertEqual(best, {0: (1, "a"), 1: (1, "b")})

    def test_a_hundred_rows_of_four_hundred_places(self):
        rows = [{place: ((place * 7 + row) % 101, "s") for place in range(400)} for row in range(100)]
        best = best_of(rows)
        self.assertEqual(sorted(best), list(range(400)))
        for place in range(400):
            self.assertEqual(best[place], (max(row[place][0] for row in rows), "s"))


class FreePlace(unittest.TestCase):
    def test_empty_dict(self):
        self.assertEqual(free_place({}), 0)

    def test_without_gaps(self):
        self.assertEqual(free_place({0: "a"}), 1)
        self.assertEqual(free_place({place: "a" for place in range(400)}), 400)

    def test_with_gaps(self):
        self.assertEqual(free_place({1: "a"}), 0)
        self.assertEqual(free_place({0: "a", 2: "b"}), 1)
        self.assertEqual(free_place({0: "a", 1: "b", 3: "c", 5: "d"}), 2)
        self.assertEqual(free_place({NINETY: "far", 0: "a"}), 1)

    def test_order_of_the_keys_is_of_no_matter(self):
        self.assertEqual(free_place({2: "c", 0: "a", 4: "e", 1: "b"}), 3)

    def test_an_empty_saying_takes_its_place(self):
        self.assertEqual(free_place({0: ""}), 1)

    def test_what_is_handed_in_stays(self):
        said = {0: "a", 2: "b"}
        free_place(said)
        self.assertEqual(said, {0: "a", 2: "b"})


def plainly_settled(count, writings):
    """What is settled, by the words of point 12, as (place, number, saying)."""
    found = set()
    for number, _, place, saying in writings:
        hands = {w[1] for w in writings if (w[0], w[2], w[3]) == (number, place, saying) and w[1] in range(count)}
        if 2 * len(hands) > count:
            found.add((place, number, saying))
    return sorted(found)


def plainly_settled_in(count, writings):
    pairs = []
    for place, _, saying in plainly_settled(count, writings):
        if (place, saying) not in pairs:
            pairs.append((place, saying))
    return pairs


def plainly_first_settled(count, writings):
    first = {}
    for taken in range(len(writings) + 1):
        for place, _, _ in plainly_settled(count, writings[:taken]):
            first.setdefault(place, taken)
    return sorted(first.items())


def any_writings(chance, count, length):
    """Writings such as a story may not have, with one saying under one number at one place."""
    sayings = {}
    writings = []
    for _ in range(length):
        number = chance.randrange(4)
        place = chance.randrange(3)
        saying = sayings.setdefault((number, place), chance.choice(["a", "b"]))
        writings.append((number, chance.randrange(count), place, saying))
    return writings


class Settled(unittest.TestCase):
    def both(self, count, writings, settled, first):
        self.assertEqual(settled_in(count, writings), settled)
        self.assertEqual(first_settled(count, writings), first)

    def test_empty_list(self):
        for count in (1, 2, 100):
            self.both(count, [], [], [])

    def test_one_scribe_alone_settles_by_one_writing(self):
        self.both(1, [(0, 0, 0, "a")], [(0, "a")], [(0, 1)])

    def test_odd_count(self):
        writings = [(4, 0, 2, "a"), (4, 1, 2, "a"), (4, 2, 2, "a"), (4, 3, 2, "a"), (4, 4, 2, "a")]
        self.both(5, writings[:2], [], [])
        self.both(5, writings[:3], [(2, "a")], [(2, 3)])
        self.both(5, writings, [(2, "a")], [(2, 3)])

    def test_half_of_an_even_count_settles_nothing(self):
        writings = [(4, 0, 0, "a"), (4, 1, 0, "a"), (4, 3, 0, "a")]
        self.both(4, writings[:2], [], [])
        self.both(4, writings, [(0, "a")], [(0, 3)])
        self.both(2, [(0, 0, 0, "a")], [], [])
        self.both(2, [(0, 0, 0, "a"), (0, 1, 0, "a")], [(0, "a")], [(0, 2)])

    def test_the_same_writing_twice_counts_once(self):
        writings = [(0, 1, 0, "a"), (0, 1, 0, "a"), (0, 1, 0, "a")]
        self.both(3, writings, [], [])
        self.both(3, writings + [(0, 2, 0, "a")], [(0, "a")], [(0, 4)])

    def test_one_scribe_again_behind_others_counts_once(self):
        writings = [(0, 1, 0, "a"), (0, 2, 0, "a"), (0, 1, 0, "a"), (0, 2, 0, "a"), (0, 0, 0, "a")]
        self.both(5, writings[:4], [], [])
        self.both(5, writings, [(0, "a")], [(0, 5)])

    def test_different_numbers_are_not_added_up(self):
        self.both(3, [(0, 0, 0, "a"), (1, 1, 0, "a"), (2, 2, 0, "a")], [], [])

    def test_different_places_are_not_added_up(self):
        self.both(3, [(0, 0, 0, "a"), (0, 1, 1, "a"), (0, 2, 2, "a")], [], [])

    def test_a_later_number_of_the_same_scribes_takes_nothing_back(self):
        writings = [(0, 0, 0, "a"), (1, 0, 0, "b"), (0, 1, 0, "a")]
        self.both(3, writings, [(0, "a")], [(0, 3)])

    def test_two_sayings_at_one_place_go_by_the_least_number(self):
        late = [(7, 0, 0, "a"), (7, 1, 0, "a")]
        early = [(2, 0, 0, "z"), (2, 2, 0, "z")]
        self.both(3, late + early, [(0, "z"), (0, "a")], [(0, 2)])
        self.both(3, early + late, [(0, "z"), (0, "a")], [(0, 2)])

    def test_numbers_are_not_ordered_as_texts(self):
        writings = [(10, 0, 9, "a"), (9, 0, 9, "b"), (9, 0, 10, "c")]
        self.both(1, writings, [(9, "b"), (9, "a"), (10, "c")], [(9, 1), (10, 3)])

    def test_a_saying_settled_under_two_numbers_stands_once_by_the_least(self):
        writings = [(5, 0, 0, "a"), (3, 0, 0, "b"), (1, 0, 0, "a")]
        self.both(1, writings, [(0, "a"), (0, "b")], [(0, 1)])
        self.both(1, writings[:2], [(0, "b"), (0, "a")], [(0, 1)])

    def test_an_unsettled_lesser_number_does_not_count_for_the_order(self):
        writings = [(1, 0, 0, "a"), (5, 0, 0, "a"), (5, 1, 0, "a"), (3, 0, 0, "b"), (3, 1, 0, "b")]
        self.both(3, writings, [(0, "b"), (0, "a")], [(0, 3)])

    def test_one_saying_at_two_places(self):
        writings = [(0, 0, 5, "a"), (0, 0, 2, "a")]
        self.both(1, writings, [(2, "a"), (5, "a")], [(2, 2), (5, 1)])

    def test_by_places_with_gaps_whatever_came_first(self):
        writings = [(1, 0, 9, "x"), (1, 0, 2, "y"), (1, 1, 2, "y"), (1, 2, 9, "x"), (1, 1, 4, "w")]
        self.both(3, writings, [(2, "y"), (9, "x")], [(2, 3), (9, 4)])

    def test_first_settled_counts_by_time_and_not_by_number(self):
        writings = [(8, 0, 0, "a"), (2, 0, 0, "b"), (8, 1, 0, "a"), (2, 1, 0, "b")]
        self.assertEqual(first_settled(3, writings), [(0, 3)])
        self.assertEqual(settled_in(3, writings), [(0, "b"), (0, "a")])

    def test_an_empty_saying_is_settled_too(self):
        self.both(1, [(0, 0, 0, "")], [(0, "")], [(0, 1)])

    def test_a_number_that_is_no_scribes_is_none_of_most(self):
        self.both(3, [(0, 0, 0, "a"), (0, 3, 0, "a"), (0, 7, 0, "a")], [], [])
        self.both(3, [(0, 3, 0, "a"), (0, 0, 0, "a"), (0, 2, 0, "a")], [(0, "a")], [(0, 3)])

    def test_numbers_of_ninety_figures(self):
        writings = [(NINETY + 1, 0, 0, "a"), (NINETY, 1, 0, "b"), (NINETY + 1, 1, 0, "a"), (NINETY, 2, 0, "b")]
        self.both(3, writings, [(0, "b"), (0, "a")], [(0, 3)])
        self.both(1, [(0, 0, NINETY, "b"), (0, 0, 3, "a")], [(3, "a"), (NINETY, "b")], [(3, 2), (NINETY, 1)])

    def test_a_hundred_scribes_and_four_hundred_writings(self):
        writings = [(HUNDRED, scribe, place, "a") for scribe in range(100) for place in range(4)]
        self.assertEqual(len(writings), 400)
        settled = [(place, "a") for place in range(4)]
        self.both(100, writings, settled, [(place, 200 + place + 1) for place in range(4)])
        self.both(100, writings[:200], [], [])

    def test_as_the_words_of_the_document_for_any_writings(self):
        chance = random.Random(12)
        for _ in range(600):
            count = chance.randrange(1, 6)
            writings = any_writings(chance, count, chance.randrange(40))
            self.assertEqual(settled_in(count, writings), plainly_settled_in(count, writings), writings)
            self.assertEqual(first_settled(count, writings), plainly_first_settled(count, writings), writings)

    def test_kinds(self):
        for told in (settled_in(1, [(0, 0, 0, "a")]), first_settled(1, [(0, 0, 0, "a")])):
            self.assertIs(type(told), list)
            self.assertIs(type(told[0]), tuple)

    def test_what_is_handed_in_stays_and_is_not_kept(self):
        writings = [(3, 0, 1, "b"), (1, 0, 1, "a"), (1, 0, 0, "c")]
        before = list(writings)
        for told_by in (settled_in, first_settled):
            told = told_by(1, writings)
            self.assertEqual(writings, before)
            kept = list(told)
            told.append("more")
            self.assertEqual(writings, before)
            self.assertEqual(told_by(1, writings), kept)
            other = list(writings)
            told = told_by(1, other)
            other.clear()
            self.assertEqual(told, kept)


if __name__ == "__main__":
    unittest.main()
