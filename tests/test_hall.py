import unittest

from scriberow.errors import NoScribe
from scriberow.hall import Hall, Lead


class Books(unittest.TestCase):
    def seen(self, hall):
        return [scribe.seen for scribe in hall.scribes]

    def test_at_the_beginning(self):
        hall = Hall(3)
        self.assertEqual(self.seen(hall), [-1, -1, -1])
        self.assertEqual([scribe.promised for scribe in hall.scribes], [-1, -1, -1])
        self.assertEqual([scribe.row for scribe in hall.scribes], [{}, {}, {}])
        self.assertEqual(hall.writings, [])

    def test_seen_is_what_it_rose_under_last(self):
        hall = Hall(3)
        self.assertEqual([hall.rise(1), hall.rise(1), hall.rise(2)], [1, 4, 2])
        self.assertEqual(self.seen(hall), [-1, 4, 2])

    def test_seen_is_a_greater_number_by_which_it_fell(self):
        hall = Hall(3)
        hall.rise(2)
        hall.ask(2, 1)
        hall.rise(0)
        self.assertIs(hall.ask(0, 1), False)
        self.assertEqual(self.seen(hall), [2, -1, 2])
        # By writing as well.
        hall = Hall(3)
        hall.rise(0)
        self.assertEqual([hall.ask(0, 0), hall.ask(0, 2), hall.say(0, "a")], [True, True, 0])
        hall.rise(1)
        hall.rise(1)
        hall.ask(1, 2)
        self.assertIs(hall.have_write(0, 2, 0), False)
        self.assertEqual(self.seen(hall), [4, 4, -1])

    def test_promises_and_writings_for_others_do_not_raise_what_is_seen(self):
        hall = Hall(3)
        hall.rise(2)
        self.assertEqual([hall.ask(2, 0), hall.ask(2, 1), hall.say(2, "a")], [True, True, 0])
        self.assertEqual([hall.have_write(2, 0, 0), hall.have_write(2, 1, 0)], [True, True])
        self.assertEqual(self.seen(hall), [-1, -1, 2])
        self.assertEqual([scribe.promised for scribe in hall.scribes], [2, 2, -1])

    def test_the_book_stays_through_a_stop(self):
        hall = Hall(2)
        hall.rise(1)
        self.assertEqual([hall.ask(1, 1), hall.ask(1, 0), hall.say(1, "a"), hall.have_write(1, 1, 0)], [True, True, 0, True])
        for change in (hall.be_stopped, hall.come_up):
            self.assertIs(change(1), True)
            book = hall.scribes[1]
            self.assertEqual((book.promised, book.row, book.seen), (1, {0: (1, "a")}, 1))

    def test_two_halls_share_nothing(self):
        one, other = Hall(1), Hall(1)
        self.assertEqual([one.rise(0), one.ask(0, 0), one.say(0, "a"), one.have_write(0, 0, 0)], [0, True, 0, True])
        self.assertEqual((other.writings, other.scribes[0].row, other.known_settled(0)), ([], {}, []))
        self.assertIs(other.ask(0, 0), None)


class NoScribes(unittest.TestCase):
    def test_refused_ahead_of_all_else(self):
        hall = Hall(2)
        hall.rise(0)
        hall.be_stopped(1)
        for bad in (-1, -2, 2, 10**100, -(10**5000), 10**5000):
            for refused in (hall.rise, hall.known_settled, hall.be_stopped, hall.come_up):
                self.assertRaises(NoScribe, refused, bad)
            self.assertRaises(NoScribe, hall.say, bad, "a")
            for own, other in ((bad, 0), (bad, 1), (0, bad), (1, bad), (bad, bad)):
                self.assertRaises(NoScribe, hall.ask, own, other)
                self.assertRaises(NoScribe, hall.have_write, own, other, 0)


class Leads(unittest.TestCase):
    def test_rows_are_not_changed_and_not_kept(self):
        row = {0: (1, "a")}
        lead = Lead(5, 3)
        lead.hear(0, row)
        self.assertEqual(row, {0: (1, "a")})
        row[0] = (2, "b")
        row[1] = (2, "c")
        lead.hear(1, {2: (0, "d")})
        self.assertEqual(lead.said, {0: "a", 2: "d"})
        self.assertEqual([lead.say("e"), lead.say("f")], [1, 3])

    def test_nothing_is_said_ahead_of_the_opening(self):
        lead = Lead(5, 3)
        lead.hear(0, {0: (1, "a")})
        lead.hear(0, {0: (1, "a")})
        self.assertEqual((lead.opened, lead.said), (False, {}))
        lead.hear(2, {})
        self.assertEqual((lead.opened, lead.said), (True, {0: "a"}))

    def test_numbers_of_a_hundred_figures(self):
        huge = 10**100
        lead = Lead(huge + 9, 3)
        lead.hear(0, {0: (huge, "a"), huge: (huge, "c")})
        lead.hear(1, {0: (huge + 1, "b"), huge: (huge - 1, "d")})
        self.assertEqual(lead.said, {0: "b", huge: "c"})
        self.assertEqual(lead.say("e"), 1)


if __name__ == "__main__":
    unittest.main()
