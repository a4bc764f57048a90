import unittest

from scriberow.counting import best_of
from scriberow.scribe import Scribe, tried

NINETY = 10**89 + 7


class EmptyBook(unittest.TestCase):
    def test_a_book_at_the_beginning(self):
        for own, count in ((0, 1), (2, 3), (99, 100)):
            scribe = Scribe(own, count)
            self.assertEqual(scribe.promised, -1)
            self.assertEqual(scribe.row, {})
            self.assertEqual(scribe.seen, -1)

    def test_each_scribe_has_a_book_of_its_own(self):
        one, other = Scribe(0, 3), Scribe(1, 3)
        tried(one, [("put", 3, 0, "a")])
        self.assertEqual((other.promised, other.row), (-1, {}))
        self.assertEqual((one.promised, one.row), (3, {0: (3, "a")}))


class Promises(unittest.TestCase):
    def test_the_very_number_one_less_and_one_greater(self):
        for number in (5, NINETY):
            scribe = Scribe(0, 3)
            self.assertEqual(tried(scribe, [("promise", number)]), [True])
            self.assertEqual(tried(scribe, [("promise", number)]), [True])
            self.assertEqual(scribe.promised, number)
            self.assertEqual(tried(scribe, [("promise", number - 1)]), [False])
            self.assertEqual(scribe.promised, number)
            self.assertEqual(tried(scribe, [("promise", number + 1)]), [True])
            self.assertEqual(scribe.promised, number + 1)
            self.assertEqual(tried(scribe, [("promise", number)]), [False])
            self.assertEqual(scribe.promised, number + 1)

    def test_nought_is_promised_first(self):
        scribe = Scribe(0, 1)
        self.assertEqual(tried(scribe, [("promise", 0)]), [True])
        self.assertEqual(scribe.promised, 0)

    def test_a_number_of_any_scribe_is_promised(self):
        scribe = Scribe(1, 3)
        self.assertEqual(tried(scribe, [("promise", n) for n in range(7)]), [True] * 7)
        self.assertEqual(scribe.promised, 6)

    def test_a_promise_leaves_the_row(self):
        scribe = Scribe(0, 3)
        tried(scribe, [("put", 2, 4, "a"), ("promise", 9)])
        self.assertEqual(scribe.row, {4: (2, "a")})

    def test_what_is_promised_or_put_does_not_raise_what_is_seen(self):
        scribe = Scribe(0, 3)
        tried(scribe, [("promise", 4), ("put", 8, 0, "a"), ("promise", 1)])
        self.assertEqual(scribe.seen, -1)


class Puttings(unittest.TestCase):
    def test_the_very_number_one_less_and_one_greater(self):
        for number in (5, NINETY):
            scribe = Scribe(0, 3)
            tried(scribe, [("promise", number)])
            self.assertEqual(tried(scribe, [("put", number, 0, "a")]), [True])
            self.assertEqual((scribe.promised, scribe.row), (number, {0: (number, "a")}))
            self.assertEqual(tried(scribe, [("put", number - 1, 0, "b"), ("put", number - 1, 1, "b")]), [False, False])
            self.assertEqual((scribe.promised, scribe.row), (number, {0: (number, "a")}))
            self.assertEqual(tried(scribe, [("put", number + 1, 0, "c")]), [True])
            self.assertEqual((scribe.promised, scribe.row), (number + 1, {0: (number + 1, "c")}))
            self.assertEqual(tried(scribe, [("promise", number), ("put", number, 0, "a")]), [False, False])
            self.assertEqual((scribe.promised, scribe.row), (number + 1, {0: (number + 1, "c")}))

    def test_a_putting_needs_no_promise_ahead_of_it(self):
        scribe = Scribe(2, 3)
        self.assertEqual(tried(scribe, [("put", 0, 0, "a")]), [True])
        self.assertEqual((scribe.promised, scribe.row), (0, {0: (0, "a")}))

    def test_what_counts_is_the_promise_and_not_the_number_at_the_place(self):
        scribe = Scribe(0, 3)
        self.assertEqual(tried(scribe, [("put", 1, 0, "a"), ("promise", 7), ("put", 5, 0, "b")]), [True, True, False])
        self.assertEqual((scribe.promised, scribe.row), (7, {0: (1, "a")}))
        self.assertEqual(tried(scribe, [("put", 5, 1, "b"), ("put", 7, 1, "c")]), [False, True])
        self.assertEqual(scribe.row, {0: (1, "a"), 1: (7, "c")})

    def test_places_with_gaps_stay_as_they_are(self):
        scribe = Scribe(0, 3)
        tried(scribe, [("put", 1, 9, "a"), ("put", 1, 2, "b"), ("put", 2, NINETY, "c"), ("put", 3, 2, "d")])
        self.assertEqual(scribe.row, {9: (1, "a"), 2: (3, "d"), NINETY: (2, "c")})

    def test_the_same_number_writes_anew(self):
        scribe = Scribe(0, 3)
        self.assertEqual(tried(scribe, [("put", 1, 0, "a"), ("put", 1, 0, "b")]), [True, True])
        self.assertEqual(scribe.row, {0: (1, "b")})

    def test_any_text_is_a_saying(self):
        scribe = Scribe(0, 1)
        tried(scribe, [("put", 0, 0, ""), ("put", 0, 1, "Two words")])
        self.assertEqual(scribe.row, {0: (0, ""), 1: (0, "Two words")})


class Tried(unittest.TestCase):
    def test_no_tries(self):
        scribe = Scribe(0, 1)
        self.assertEqual(tried(scribe, []), [])
        self.assertEqual((scribe.promised, scribe.row), (-1, {}))

    def test_answers_stand_in_the_order_of_the_tries(self):
        tries = [("promise", 3), ("put", 2, 0, "a"), ("put", 3, 0, "b"), ("promise", 2), ("promise", 4), ("put", 3, 1, "c")]
        answers = tried(Scribe(1, 5), tries)
        self.assertEqual(answers, [True, False, True, False, True, False])
        self.assertTrue(all(answer is True or answer is False for answer in answers))

    def test_a_scribe_goes_on_where_it_was(self):
        tries = [("promise", 3), ("put", 4, 0, "a"), ("promise", 2), ("put", 4, 1, "b")]
        once, bit_by_bit = Scribe(0, 3), Scribe(0, 3)
        answers = tried(once, tries)
        self.assertEqual([tried(bit_by_bit, [attempt])[0] for attempt in tries], answers)
        self.assertEqual((bit_by_bit.promised, bit_by_bit.row), (once.promised, once.row))

    def test_four_hundred_tries(self):
        tries = [("put", NINETY + step, step % 7, "a") for step in range(400)]
        scribe = Scribe(0, 100)
        self.assertEqual(tried(scribe, tries), [True] * 400)
        self.assertEqual(scribe.promised, NINETY + 399)
        self.assertEqual(tried(scribe, tries), [False] * 399 + [True])

    def test_what_is_handed_in_stays_and_is_not_kept(self):
        tries = [("promise", 1), ("put", 2, 0, "a")]
        before = list(tries)
        scribe = Scribe(0, 3)
        answers = tried(scribe, tries)
        self.assertEqual(tries, before)
        answers.append("more")
        self.assertEqual(tries, before)
        tries.append(("put", 9, 9, "z"))
        tries[1] = ("put", 9, 0, "z")
        self.assertEqual((scribe.promised, scribe.row), (2, {0: (2, "a")}))
        self.assertEqual(answers, [True, True, "more"])

    def test_later_puttings_do_not_reach_into_what_was_told_of_the_row(self):
        scribe = Scribe(0, 3)
        tried(scribe, [("put", 1, 0, "a")])
        best = best_of([scribe.row])
        tried(scribe, [("put", 2, 0, "b"), ("put", 2, 1, "c")])
        self.assertEqual(best, {0: (1, "a")})
        best.clear()
        self.assertEqual(scribe.row, {0: (2, "b"), 1: (2, "c")})


if __name__ == "__main__":
    unittest.main()
