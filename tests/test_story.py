import copy
import itertools
import unittest

from scriberow.story import answers, promised_after, rows_after, settled_after, writings_after

HUGE = 10**99 + 3


def lead_of(own, others):
    return [("rise", own)] + [("ask", own, other) for other in others]


def writes(own, others, places):
    return [("write", own, other, place) for place in places for other in others]


class StoryTest(unittest.TestCase):
    def told(self, count, deeds, wanted):
        """The answers to the last deeds are the wanted ones, and each of the wanted kind."""
        found = answers(count, deeds)
        self.assertEqual(len(found), len(deeds))
        last = found[len(found) - len(wanted):]
        self.assertEqual(last, wanted)
        # True equals 1 and False equals 0, so the kinds are asked for too.
        self.assertEqual([answer.__class__ for answer in last], [answer.__class__ for answer in wanted])

    def nothing_done(self, count, before, deed, answer):
        """The deed has the answer, and whatever comes after it is as if it had not been there."""
        self.told(count, before + [deed], [answer])
        for after in (writings_after, rows_after, promised_after, settled_after):
            self.assertEqual(after(count, before + [deed]), after(count, before), after.__name__)
        probes = [("settled", own) for own in range(count)]
        for own in range(count):
            probes += [("say", own, "probe")] + writes(own, range(count), range(3)) + [("settled", own)]
        probes += [("stop", own) for own in range(count)] + [("wake", own) for own in range(count)]
        probes += [("rise", own) for own in range(count)]
        with_deed, without = answers(count, before + [deed] + probes), answers(count, before + probes)
        self.assertEqual(with_deed[len(before) + 1:], without[len(before):])


class Beginning(StoryTest):
    def test_no_deeds(self):
        for count in (1, 2, 13):
            self.assertEqual(answers(count, []), [])
            self.assertEqual(writings_after(count, []), [])
            self.assertEqual(rows_after(count, []), [[]] * count)
            self.assertEqual(promised_after(count, []), [-1] * count)
            self.assertEqual(settled_after(count, []), [])

    def test_all_are_up_and_none_leads(self):
        for own in range(3):
            self.told(3, [("wake", own)], [False])
            self.told(3, [("ask", own, own)], [None])
            self.told(3, [("say", own, "a")], [None])
            self.told(3, [("write", own, own, 0)], [None])
            self.told(3, [("settled", own)], [[]])
            self.told(3, [("rise", own)], [own])

    def test_one_scribe_alone(self):
        deeds = lead_of(0, [0]) + [("say", 0, "a"), ("settled", 0), ("write", 0, 0, 0), ("settled", 0)]
        self.told(1, deeds, [0, True, 0, [], True, [(0, "a")]])
        self.assertEqual(writings_after(1, deeds), [(0, 0, 0, "a")])
        self.assertEqual(rows_after(1, deeds), [[(0, 0, "a")]])
        self.assertEqual(promised_after(1, deeds), [0])
        self.assertEqual(settled_after(1, deeds), [(0, "a")])

    def test_an_ordinary_story(self):
        deeds = lead_of(1, [1, 2]) + [("say", 1, "oak"), ("say", 1, "ash")] + writes(1, [2, 1], [0, 1]) + [("settled", 1)]
        self.told(3, deeds, [1, True, True, 0, 1, True, True, True, True, [(0, "oak"), (1, "ash")]])
        self.assertEqual(writings_after(3, deeds), [(1, 2, 0, "oak"), (1, 1, 0, "oak"), (1, 2, 1, "ash"), (1, 1, 1, "ash")])
        self.assertEqual(rows_after(3, deeds), [[], [(0, 1, "oak"), (1, 1, "ash")], [(0, 1, "oak"), (1, 1, "ash")]])
        self.assertEqual(promised_after(3, deeds), [-1, 1, 1])
        self.assertEqual(settled_after(3, deeds), [(0, "oak"), (1, "ash")])


class Rise(StoryTest):
    def test_the_least_number_of_its_own_above_what_it_has_seen(self):
        self.told(3, [("rise", 0), ("rise", 0), ("rise", 2), ("rise", 0), ("rise", 1), ("rise", 2)], [0, 3, 2, 6, 1, 5])
        self.told(1, [("rise", 0)] * 3, [0, 1, 2])
        self.told(13, [("rise", 12), ("rise", 12)], [12, 25])

    def test_rising_is_no_promise(self):
        self.assertEqual(promised_after(2, [("rise", 0), ("rise", 1), ("rise", 1)]), [-1, -1])

    def test_what_it_promises_to_others_does_not_raise_it(self):
        self.told(3, [("rise", 2)] * 3 + [("ask", 2, 0), ("rise", 0)], [True, 0])
        # Nor what it writes for others.
        deeds = lead_of(2, [1, 2]) + [("say", 2, "a"), ("write", 2, 0, 0), ("rise", 0)]
        self.told(3, deeds, [True, 0])
        # Nor what it promises to itself, which it has seen by rising already.
        self.told(3, lead_of(0, [0]) + [("rise", 0)], [True, 3])

    def test_above_the_greater_number_by_which_it_fell(self):
        before = [("rise", 2)] * 3 + [("ask", 2, 1)] + lead_of(0, [1])
        self.told(3, before + [("rise", 0)], [False, 9])
        # The very next number of its own, where it fell by one just below.
        self.told(3, lead_of(2, [1]) + lead_of(0, [1]) + [("rise", 0)], [0, False, 3])

    def test_what_another_fell_by_does_not_raise_it(self):
        self.told(3, lead_of(2, [1]) + lead_of(0, [1]) + [("rise", 1)], [False, 1])

    def test_stopped(self):
        self.nothing_done(3, [("stop", 1)], ("rise", 1), None)
        self.told(3, [("stop", 1), ("rise", 1), ("wake", 1), ("rise", 1)], [True, None, True, 1])

    def test_nothing_is_heard_by_a_lead_begun_anew(self):
        deeds = lead_of(0, [0]) + lead_of(0, [1])
        self.told(3, deeds + [("say", 0, "a")], [None])
        self.told(3, deeds + [("ask", 0, 2), ("say", 0, "a")], [True, 0])
        # An opened lead is gone as well.
        self.told(3, lead_of(0, [0, 1]) + [("rise", 0), ("say", 0, "a")], [3, None])

    def test_nothing_is_said_by_a_lead_begun_anew(self):
        deeds = lead_of(0, [0, 1]) + [("say", 0, "a"), ("say", 0, "b")] + lead_of(0, [0, 1])
        self.told(3, deeds + [("write", 0, 0, 0), ("write", 0, 0, 1), ("say", 0, "c")], [None, None, 0])
        self.assertEqual(rows_after(3, deeds + [("say", 0, "c"), ("write", 0, 2, 0)]), [[], [], [(0, 3, "c")]])

    def test_nothing_written_before_counts_for_a_lead_begun_anew(self):
        deeds = lead_of(0, [0, 1]) + [("say", 0, "a"), ("write", 0, 0, 0)] + lead_of(0, [0, 1]) + [("write", 0, 1, 0)]
        self.told(3, deeds + [("settled", 0)], [True, []])
        self.told(3, deeds + [("write", 0, 0, 0), ("settled", 0)], [True, [(0, "a")]])
        self.assertEqual(settled_after(3, deeds), [])

    def test_what_was_settled_before_is_not_known_by_a_lead_begun_anew(self):
        deeds = lead_of(0, [0, 1]) + [("say", 0, "a")] + writes(0, [0, 1], [0]) + [("settled", 0), ("rise", 0)]
        self.told(3, deeds + [("settled", 0)], [[(0, "a")], 3, []])
        self.told(3, deeds + [("ask", 0, 0), ("ask", 0, 1), ("settled", 0)], [True, True, []])
        self.assertEqual(settled_after(3, deeds), [(0, "a")])

    def test_others_lead_on(self):
        self.told(3, lead_of(0, [0, 1]) + [("rise", 2), ("say", 0, "a"), ("write", 0, 0, 0)], [2, 0, True])


class Ask(StoryTest):
    def test_the_other_one_promises(self):
        deeds = [("rise", 0), ("rise", 0)] + [("ask", 0, 1)]
        self.told(3, deeds, [0, 3, True])
        self.assertEqual(promised_after(3, deeds), [-1, 3, -1])
        self.assertEqual((writings_after(3, deeds), rows_after(3, deeds)), ([], [[], [], []]))

    def test_itself(self):
        self.told(2, lead_of(1, [1]), [1, True])
        self.assertEqual(promised_after(2, lead_of(1, [1])), [-1, 1])

    def test_once_more(self):
        self.told(3, lead_of(0, [1, 1, 1]), [True, True, True])
        self.assertEqual(promised_after(3, lead_of(0, [1, 1, 1])), [-1, 0, -1])

    def test_one_that_does_not_lead(self):
        self.nothing_done(3, [("rise", 1)], ("ask", 0, 1), None)
        self.nothing_done(3, [("rise", 0), ("stop", 0)], ("ask", 0, 1), None)
        self.nothing_done(3, [("rise", 0), ("stop", 0), ("wake", 0)], ("ask", 0, 1), None)
        self.nothing_done(3, lead_of(2, [1]) + lead_of(0, [1]), ("ask", 0, 2), None)

    def test_the_other_is_stopped(self):
        self.nothing_done(3, [("rise", 0), ("stop", 1)], ("ask", 0, 1), None)
        # It doesn't count towards most.
        self.told(3, [("stop", 1)] + lead_of(0, [0, 1]) + [("say", 0, "a")], [True, None, None])

    def test_a_stopped_one_does_not_refuse(self):
        before = lead_of(2, [1]) + [("stop", 1), ("rise", 0)]
        self.nothing_done(3, before, ("ask", 0, 1), None)
        self.told(3, before + [("ask", 0, 1), ("ask", 0, 0), ("wake", 1), ("ask", 0, 1)], [None, True, True, False])

    def test_the_other_has_promised_a_greater_number(self):
        deeds = lead_of(2, [1]) + lead_of(0, [0, 1])
        self.told(3, deeds, [0, True, False])
        self.assertEqual(promised_after(3, deeds), [0, 2, -1])
        after = [("ask", 0, 0), ("say", 0, "a"), ("write", 0, 0, 0), ("settled", 0), ("rise", 0)]
        self.told(3, deeds + after, [None, None, None, [], 3])

    def test_itself_has_promised_a_greater_number(self):
        deeds = lead_of(1, [0]) + lead_of(0, [0])
        self.told(2, deeds + [("rise", 0)], [0, False, 2])
        self.assertEqual(promised_after(2, deeds), [1, -1])

    def test_an_opened_lead_falls_as_well(self):
        before = lead_of(0, [0, 1]) + [("say", 0, "a")] + writes(0, [0, 1], [0]) + lead_of(2, [2])
        self.told(3, before + [("settled", 0), ("ask", 0, 2), ("settled", 0), ("say", 0, "b"), ("rise", 0)],
                  [[(0, "a")], False, [], None, 3])


class Opening(StoryTest):
    def test_most_of_the_scribes(self):
        for count in range(1, 14):
            need = count // 2 + 1
            short = lead_of(0, range(count - need + 1, count))
            self.told(count, short + [("say", 0, "a")], [None])
            self.told(count, short + [("ask", 0, count - need), ("say", 0, "a")], [True, 0])

    def test_each_is_counted_once(self):
        self.told(3, lead_of(0, [1, 1, 1, 1]) + [("say", 0, "a")], [None])
        self.told(3, lead_of(0, [1, 1, 2]) + [("say", 0, "a")], [0])
        self.told(5, lead_of(0, [1, 2, 1, 2, 1]) + [("say", 0, "a")], [None])

    def test_promises_made_to_others_do_not_count(self):
        self.told(3, lead_of(0, [0, 1, 2]) + lead_of(2, [2]) + [("say", 2, "a")], [None])

    def test_what_is_told_is_said(self):
        before = lead_of(0, [0, 1]) + [("say", 0, "a"), ("say", 0, "b")] + writes(0, [0], [0, 1])
        deeds = before + lead_of(1, [1, 0])
        self.told(3, deeds + [("say", 1, "c"), ("write", 1, 2, 0), ("write", 1, 2, 1), ("write", 1, 2, 2)],
                  [1, True, True, 2, True, True, True])
        self.assertEqual(rows_after(3, deeds + [("say", 1, "c")] + writes(1, [2], [0, 1, 2])),
                         [[(0, 0, "a"), (1, 0, "b")], [], [(0, 1, "a"), (1, 1, "b"), (2, 1, "c")]])

    def test_what_is_told_is_not_said_ahead_of_the_opening(self):
        before = lead_of(0, [0, 1]) + [("say", 0, "a")] + writes(0, [0], [0])
        self.nothing_done(3, before + lead_of(1, [0]), ("write", 1, 0, 0), None)
        self.nothing_done(3, before + lead_of(1, [0]), ("say", 1, "b"), None)

    def test_what_was_said_and_not_written_is_not_told(self):
        self.told(3, lead_of(0, [0, 1]) + [("say", 0, "a")] + lead_of(1, [0, 1]) + [("say", 1, "b")], [0])

    def test_the_greatest_number_that_was_told(self):
        # Three leads ask those alone that have nothing, and write each by itself alone.
        rows = []
        for own, saying in ((0, "a"), (1, "b"), (2, "c")):
            rows += lead_of(own, [2, 3, 4]) + [("say", own, saying), ("write", own, own, 0)]
        self.assertEqual(rows_after(5, rows), [[(0, 0, "a")], [(0, 1, "b")], [(0, 2, "c")], [], []])
        for asked in itertools.permutations(range(5), 3):
            with self.subTest(asked=asked):
                deeds = rows + lead_of(4, asked) + [("write", 4, 3, 0)]
                self.assertEqual(writings_after(5, deeds)[-1], (4, 3, 0, "abc"[max(set(asked) & {0, 1, 2})]))

    def test_each_place_has_its_own_greatest_number(self):
        # Scribe 0: place 0 under 0, place 1 under 3. Scribe 1: place 0 under 1, and nothing at place 1.
        rows = lead_of(0, [0, 2]) + [("say", 0, "a")] + writes(0, [0], [0])
        rows += lead_of(1, [1, 2]) + [("say", 1, "b")] + writes(1, [1], [0])
        rows += lead_of(0, [0, 2]) + [("say", 0, "c")] + writes(0, [0], [1])
        self.assertEqual(rows_after(3, rows), [[(0, 0, "a"), (1, 3, "c")], [(0, 1, "b")], []])
        for asked in ((0, 1), (1, 0)):
            deeds = rows + [("rise", 2), ("rise", 2)] + lead_of(2, asked) + [("say", 2, "d")]
            self.told(3, deeds, [2, 5, 8, True, True, 2])
            self.assertEqual(rows_after(3, deeds + writes(2, [2], [0, 1, 2]))[2], [(0, 8, "b"), (1, 8, "c"), (2, 8, "d")])

    def test_what_one_that_refused_has_is_not_told(self):
        before = lead_of(2, [2, 1]) + [("say", 2, "a"), ("write", 2, 2, 0)] + lead_of(0, [0, 2])
        self.told(3, before + lead_of(0, [0, 1]) + [("say", 0, "b")], [3, True, True, 0])

    def test_what_is_told_later_changes_nothing(self):
        rows = lead_of(2, [2, 1]) + [("say", 2, "x"), ("say", 2, "z")] + writes(2, [2], [0, 1])
        opened = rows + [("rise", 0)] + lead_of(0, [0, 1])
        # Nothing was said at all when it was told.
        self.told(3, opened + [("ask", 0, 2), ("write", 0, 0, 0), ("say", 0, "y")], [3, True, True, True, None, 0])
        # Something else was said at one of the places.
        deeds = opened + [("say", 0, "y"), ("ask", 0, 2), ("write", 0, 0, 1), ("write", 0, 0, 0), ("say", 0, "w")]
        self.told(3, deeds, [0, True, None, True, 1])
        self.assertEqual(rows_after(3, deeds)[0], [(0, 3, "y")])

    def test_asking_once_more_behind_an_opened_lead(self):
        deeds = lead_of(0, [0, 1]) + [("say", 0, "a"), ("write", 0, 0, 0), ("ask", 0, 0), ("ask", 0, 2), ("ask", 0, 1)]
        self.told(3, deeds + [("say", 0, "b"), ("write", 0, 1, 0), ("settled", 0)], [True, True, True, 1, True, [(0, "a")]])

    def test_rows_are_told_as_they_are_when_asked(self):
        # Scribe 2 is told of while it has nothing; what it writes later is none of this lead's.
        deeds = [("rise", 1), ("rise", 1), ("ask", 1, 0)] + lead_of(2, [2, 1]) + [("say", 2, "a"), ("write", 2, 2, 0)]
        self.told(3, deeds + [("ask", 1, 1), ("say", 1, "b")], [True, True, 0])


class Say(StoryTest):
    def test_no_opened_lead(self):
        self.nothing_done(3, [], ("say", 0, "a"), None)
        self.nothing_done(3, [("rise", 0)], ("say", 0, "a"), None)
        self.nothing_done(3, lead_of(0, [1]), ("say", 0, "a"), None)
        self.nothing_done(3, lead_of(0, [0, 1]) + [("stop", 0)], ("say", 0, "a"), None)
        self.nothing_done(3, lead_of(0, [0, 1]) + [("stop", 0), ("wake", 0)], ("say", 0, "a"), None)
        self.nothing_done(3, lead_of(2, [2]) + lead_of(0, [0, 1, 2]), ("say", 0, "a"), None)
        self.nothing_done(3, lead_of(0, [0, 1]), ("say", 1, "a"), None)

    def test_places_one_after_the_other(self):
        deeds = lead_of(0, [0, 1]) + [("say", 0, saying) for saying in ("a", "b", "a", "a")]
        self.told(3, deeds, [0, 1, 2, 3])
        self.assertEqual(rows_after(3, deeds + writes(0, [2], [3, 1, 0, 2]))[2],
                         [(0, 0, "a"), (1, 0, "b"), (2, 0, "a"), (3, 0, "a")])

    def test_the_least_place_where_nothing_is_said(self):
        # Only places 1 and 3 are told, so that 0, 2 and 4 are free.
        rows = lead_of(0, [0, 1]) + [("say", 0, saying) for saying in "abcd"] + writes(0, [0], [1, 3])
        deeds = rows + lead_of(1, [0, 1]) + [("say", 1, saying) for saying in "efg"]
        self.told(3, deeds, [0, 2, 4])
        self.assertEqual(rows_after(3, deeds + writes(1, [2], range(6)))[2],
                         [(0, 1, "e"), (1, 1, "b"), (2, 1, "f"), (3, 1, "d"), (4, 1, "g")])

    def test_saying_is_not_writing(self):
        deeds = lead_of(0, [0, 1]) + [("say", 0, "a"), ("say", 0, "b")]
        self.assertEqual(writings_after(3, deeds), [])
        self.told(3, deeds + [("settled", 0)], [[]])

    def test_any_text_is_a_saying(self):
        deeds = lead_of(0, [0]) + [("say", 0, ""), ("say", 0, "Two words"), ("say", 0, "no scribe")]
        self.told(1, deeds + writes(0, [0], range(3)) + [("settled", 0)],
                  [0, 1, 2, True, True, True, [(0, ""), (1, "Two words"), (2, "no scribe")]])


class Write(StoryTest):
    OPENED = lead_of(0, [0, 1]) + [("say", 0, "a")]

    def test_it_is_put_under_the_number_of_the_lead(self):
        deeds = [("rise", 0)] + self.OPENED + [("write", 0, 1, 0)]
        self.told(3, deeds, [0, True])
        self.assertEqual(writings_after(3, deeds), [(3, 1, 0, "a")])
        self.assertEqual(rows_after(3, deeds), [[], [(0, 3, "a")], []])

    def test_itself_writes(self):
        deeds = self.OPENED + [("write", 0, 0, 0)]
        self.told(3, deeds, [True])
        self.assertEqual(rows_after(3, deeds), [[(0, 0, "a")], [], []])

    def test_one_that_was_not_asked_promises_by_writing(self):
        deeds = [("rise", 0)] + self.OPENED + [("write", 0, 2, 0)]
        self.told(3, deeds, [True])
        self.assertEqual(promised_after(3, deeds), [3, 3, 3])
        self.told(3, deeds + lead_of(1, [2]), [1, False])

    def test_once_more(self):
        deeds = self.OPENED + [("write", 0, 1, 0), ("write", 0, 1, 0), ("settled", 0)]
        self.told(3, deeds, [True, True, []])
        self.assertEqual(writings_after(3, deeds), [(0, 1, 0, "a"), (0, 1, 0, "a")])
        self.assertEqual(settled_after(3, deeds), [])
        self.told(3, deeds + [("write", 0, 0, 0), ("settled", 0), ("write", 0, 1, 0), ("settled", 0)],
                  [True, [(0, "a")], True, [(0, "a")]])

    def test_nothing_is_said_at_the_place(self):
        for place in (1, 2, HUGE):
            self.nothing_done(3, self.OPENED, ("write", 0, 1, place), None)
        self.nothing_done(3, lead_of(0, [0, 1]), ("write", 0, 1, 0), None)
        self.nothing_done(3, lead_of(0, [0]), ("write", 0, 0, 0), None)

    def test_one_that_does_not_lead(self):
        self.nothing_done(3, self.OPENED, ("write", 1, 1, 0), None)
        self.nothing_done(3, self.OPENED + [("stop", 0)], ("write", 0, 1, 0), None)
        self.nothing_done(3, self.OPENED + [("stop", 0), ("wake", 0)], ("write", 0, 1, 0), None)
        self.nothing_done(3, self.OPENED + lead_of(2, [2]) + [("write", 0, 2, 0)], ("write", 0, 1, 0), None)

    def test_the_other_is_stopped(self):
        self.nothing_done(3, self.OPENED + [("stop", 1)], ("write", 0, 1, 0), None)
        self.told(3, self.OPENED + [("stop", 1), ("write", 0, 1, 0), ("wake", 1), ("write", 0, 1, 0)], [None, True, True])

    def test_the_other_has_promised_a_greater_number(self):
        before = self.OPENED + [("write", 0, 1, 0), ("rise", 2)] + lead_of(2, [1])
        deeds = before + [("write", 0, 1, 0)]
        self.told(3, deeds, [2, 5, True, False])
        for after in (writings_after, rows_after, promised_after, settled_after):
            self.assertEqual(after(3, deeds), after(3, before), after.__name__)
        self.told(3, deeds + [("write", 0, 0, 0), ("ask", 0, 0), ("say", 0, "b"), ("settled", 0), ("rise", 0)],
                  [None, None, None, [], 6])

    def test_itself_has_promised_a_greater_number(self):
        self.told(3, self.OPENED + lead_of(1, [0]) + [("write", 0, 0, 0), ("rise", 0)], [False, 3])

    def test_a_refusal_comes_behind_a_place_where_nothing_is_said(self):
        before = self.OPENED + lead_of(2, [1])
        self.nothing_done(3, before, ("write", 0, 1, 1), None)
        self.told(3, before + [("write", 0, 1, 1), ("write", 0, 0, 0), ("write", 0, 1, 0)], [None, True, False])

    def test_a_refusal_does_not_come_from_a_stopped_one(self):
        before = self.OPENED + lead_of(2, [1]) + [("stop", 1)]
        self.nothing_done(3, before, ("write", 0, 1, 0), None)
        self.told(3, before + [("write", 0, 1, 0), ("write", 0, 0, 0)], [None, True])

    def test_a_greater_number_is_written_over_a_lesser(self):
        deeds = self.OPENED + writes(0, [0], [0]) + lead_of(1, [1, 2]) + [("say", 1, "b")] + writes(1, [0], [0])
        self.assertEqual(writings_after(3, deeds), [(0, 0, 0, "a"), (1, 0, 0, "b")])
        self.assertEqual(rows_after(3, deeds)[0], [(0, 1, "b")])

    def test_rows_are_told_by_places(self):
        deeds = self.OPENED + [("say", 0, "b")] * 11 + writes(0, [2], [10, 2, 11, 0, 1])
        self.assertEqual([entry[0] for entry in rows_after(3, deeds)[2]], [0, 1, 2, 10, 11])
        self.assertEqual([writing[2] for writing in writings_after(3, deeds)], [10, 2, 11, 0, 1])


class Settled(StoryTest):
    def test_one_that_does_not_lead(self):
        known = lead_of(0, [0, 1]) + [("say", 0, "a")] + writes(0, [0, 1], [0])
        self.nothing_done(3, [], ("settled", 0), [])
        self.nothing_done(3, known, ("settled", 1), [])
        self.nothing_done(3, known + [("stop", 0)], ("settled", 0), [])
        self.nothing_done(3, known + [("stop", 0), ("wake", 0)], ("settled", 0), [])
        self.nothing_done(3, known + lead_of(2, [2]) + [("ask", 0, 2)], ("settled", 0), [])

    def test_one_whose_lead_is_not_opened(self):
        self.nothing_done(3, lead_of(0, [0]), ("settled", 0), [])

    def test_just_most_and_one_less(self):
        for count in range(1, 14):
            need = count // 2 + 1
            deeds = lead_of(0, range(need)) + [("say", 0, "a")] + writes(0, range(count - need + 1, count), [0])
            self.told(count, deeds + [("settled", 0)], [[]])
            self.assertEqual(settled_after(count, deeds), [])
            deeds += [("write", 0, count - need, 0)]
            self.told(count, deeds + [("settled", 0)], [True, [(0, "a")]])
            self.assertEqual(settled_after(count, deeds), [(0, "a")])

    def test_by_places(self):
        deeds = lead_of(0, [0, 1]) + [("say", 0, saying) for saying in "abcdefghijkl"]
        deeds += writes(0, [0], range(12)) + writes(0, [1], [11, 4, 2, 10, 0])
        self.told(3, deeds + [("settled", 0)], [[(0, "a"), (2, "c"), (4, "e"), (10, "k"), (11, "l")]])
        self.assertEqual(settled_after(3, deeds), [(0, "a"), (2, "c"), (4, "e"), (10, "k"), (11, "l")])

    def test_what_is_known_stays_known_when_others_write_there(self):
        deeds = lead_of(0, [0, 1]) + [("say", 0, "a")] + writes(0, [0, 1], [0])
        deeds += lead_of(2, [2, 1]) + writes(2, [1, 0, 2], [0])
        self.told(3, deeds + [("settled", 0), ("settled", 2)], [[(0, "a")], [(0, "a")]])
        self.assertEqual(rows_after(3, deeds), [[(0, 2, "a")]] * 3)

    def test_what_others_settled_is_not_known(self):
        deeds = lead_of(0, [0, 1]) + [("say", 0, "a")] + writes(0, [0, 1], [0]) + lead_of(1, [0, 1])
        self.told(3, deeds + [("settled", 1)], [[]])
        self.told(3, deeds + writes(1, [0], [0]) + [("settled", 1)], [True, []])
        self.told(3, deeds + writes(1, [0, 2], [0]) + [("settled", 1)], [True, True, [(0, "a")]])

    def test_writings_under_several_numbers_do_not_add_up(self):
        deeds = lead_of(0, [0, 1]) + [("say", 0, "a")] + writes(0, [0], [0]) + lead_of(1, [0, 1]) + writes(1, [1], [0])
        self.assertEqual(rows_after(3, deeds), [[(0, 0, "a")], [(0, 1, "a")], []])
        self.assertEqual(settled_after(3, deeds), [])

    def test_settled_though_the_one_that_led_is_stopped(self):
        deeds = lead_of(0, [0, 1]) + [("say", 0, "a")] + writes(0, [1], [0])
        deeds += [("stop", 1), ("write", 0, 2, 0), ("stop", 0), ("stop", 2)]
        self.assertEqual(settled_after(3, deeds), [(0, "a")])

    def test_the_same_place_under_two_numbers_is_told_once(self):
        deeds = lead_of(0, [0, 1]) + [("say", 0, "a")] + writes(0, [0, 1], [0])
        deeds += lead_of(1, [0, 1]) + [("say", 1, "b")] + writes(1, [0, 1], [1, 0])
        self.assertEqual(settled_after(3, deeds), [(0, "a"), (1, "b")])


class StopAndWake(StoryTest):
    def test_answers(self):
        self.told(3, [("stop", 1), ("stop", 1), ("wake", 1), ("wake", 1), ("stop", 1), ("stop", 0)],
                  [True, False, True, False, True, True])

    def test_a_stop_once_more_or_a_wake_once_more_does_nothing(self):
        self.nothing_done(3, lead_of(0, [0, 1]) + [("stop", 1)], ("stop", 1), False)
        self.nothing_done(3, lead_of(0, [0, 1]) + [("say", 0, "a")], ("wake", 0), False)

    def test_it_leads_no_more(self):
        before = lead_of(0, [0, 1]) + [("say", 0, "a"), ("stop", 0)]
        probes = [("ask", 0, 1), ("say", 0, "b"), ("write", 0, 1, 0), ("settled", 0)]
        self.told(3, before + probes + [("rise", 0)], [None, None, None, [], None])
        self.told(3, before + [("wake", 0)] + probes + [("rise", 0)], [True, None, None, None, [], 3])

    def test_the_book_stays(self):
        before = [("rise", 0)] + lead_of(0, [0, 1]) + [("say", 0, "a")] + writes(0, [0, 1], [0])
        deeds = before + [("stop", 1), ("stop", 0)]
        for after in (writings_after, rows_after, promised_after, settled_after):
            self.assertEqual(after(3, deeds), after(3, before), after.__name__)
            self.assertEqual(after(3, deeds + [("wake", 0), ("wake", 1)]), after(3, before), after.__name__)
        # What it promised, what it wrote and what it has seen.
        self.told(3, deeds + [("wake", 1)] + lead_of(2, [1]), [2, False])
        self.told(3, deeds + [("wake", 1), ("rise", 2)] + lead_of(2, [1, 2]) + [("say", 2, "b")], [5, True, True, 1])
        self.told(3, deeds + [("wake", 0), ("rise", 0)], [6])

    def test_what_it_fell_by_stays_in_the_book(self):
        self.told(3, lead_of(2, [1]) + lead_of(0, [1]) + [("stop", 0), ("wake", 0), ("rise", 0)], [False, True, True, 3])

    def test_another_that_leads_is_not_disturbed(self):
        deeds = lead_of(0, [0, 1]) + [("say", 0, "a"), ("write", 0, 1, 0), ("stop", 1), ("write", 0, 2, 0), ("settled", 0)]
        self.told(3, deeds, [True, True, True, [(0, "a")]])
        self.told(3, lead_of(0, [1]) + [("stop", 1), ("ask", 0, 2), ("say", 0, "a")], [True, True, 0])

    def test_most_are_stopped(self):
        deeds = [("stop", 1), ("stop", 2)] + lead_of(0, [0, 1, 2]) + [("say", 0, "a")]
        self.told(3, deeds, [0, True, None, None, None])
        self.told(3, deeds + [("wake", 2), ("ask", 0, 2), ("say", 0, "a")], [True, True, 0])


class NoScribes(StoryTest):
    # A lead that is opened, something said, a scribe that is stopped.
    BEFORE = lead_of(0, [0, 1]) + [("say", 0, "a"), ("write", 0, 1, 0), ("stop", 2)]

    def test_the_own_number_is_no_scribes(self):
        for own in (-1, -2, -3, -4, 3, 4, HUGE, -HUGE):
            deeds = [("rise", own), ("ask", own, 1), ("say", own, "a"), ("write", own, 1, 0), ("settled", own),
                     ("stop", own), ("wake", own)]
            for deed in deeds:
                self.nothing_done(3, self.BEFORE, deed, "no scribe")
                self.nothing_done(3, [], deed, "no scribe")

    def test_the_other_number_is_no_scribes(self):
        for other in (-1, -2, -3, -4, 3, 4, HUGE, -HUGE):
            # Of one that leads, one that doesn't, and one that is stopped; a place where something is said or not.
            for own in range(3):
                self.nothing_done(3, self.BEFORE, ("ask", own, other), "no scribe")
                for place in (0, 1):
                    self.nothing_done(3, self.BEFORE, ("write", own, other, place), "no scribe")

    def test_both_numbers_are_no_scribes(self):
        for own, other in ((-1, 3), (3, -1), (HUGE, HUGE)):
            self.nothing_done(3, self.BEFORE, ("ask", own, other), "no scribe")
            self.nothing_done(3, self.BEFORE, ("write", own, other, 0), "no scribe")

    def test_the_other_is_stopped_and_the_own_is_no_scribes(self):
        self.nothing_done(3, self.BEFORE, ("ask", 3, 2), "no scribe")
        self.nothing_done(3, self.BEFORE, ("write", -1, 2, 0), "no scribe")

    def test_the_last_scribe_is_one(self):
        self.told(3, [("rise", 2), ("ask", 2, 2), ("rise", 3)], [2, True, "no scribe"])
        self.told(1, [("rise", 0), ("rise", 1), ("rise", -1)], [0, "no scribe", "no scribe"])

    def test_the_deeds_behind_it_are_done(self):
        self.told(3, [("rise", 7), ("rise", 0), ("ask", 0, 9), ("ask", 0, 0)], ["no scribe", 0, "no scribe", True])


class Handed(StoryTest):
    DEEDS = lead_of(0, [0, 1]) + [("say", 0, "a"), ("say", 0, "b")] + writes(0, [0, 1], [0, 1]) + [("settled", 0), ("rise", 5)]
    ALL = (answers, writings_after, rows_after, promised_after, settled_after)

    def test_the_deeds_are_as_they_were(self):
        for told in self.ALL:
            deeds = copy.deepcopy(self.DEEDS)
            told(3, deeds)
            self.assertEqual(deeds, self.DEEDS, told.__name__)

    def test_what_is_told_is_new_each_time(self):
        for told in self.ALL:
            deeds = list(self.DEEDS)
            first = told(3, deeds)
            wanted = copy.deepcopy(first)
            deeds.clear()
            self.assertEqual(first, wanted, told.__name__)
            for part in first:
                if isinstance(part, list):
                    part.append("more")
            first.append("more")
            self.assertEqual(told(3, self.DEEDS), wanted, told.__name__)

    def test_what_was_answered_does_not_change_by_later_deeds(self):
        deeds = lead_of(0, [0]) + [("settled", 0), ("say", 0, "a"), ("settled", 0), ("write", 0, 0, 0), ("settled", 0)]
        deeds += [("say", 0, "b"), ("write", 0, 0, 1), ("settled", 0)]
        found = answers(1, deeds)
        self.assertEqual([found[2], found[4], found[6], found[9]], [[], [], [(0, "a")], [(0, "a"), (1, "b")]])

    def test_kinds(self):
        self.assertIsInstance(answers(3, self.DEEDS), list)
        for told in (writings_after, settled_after):
            self.assertIsInstance(told(3, self.DEEDS), list)
            self.assertTrue(all(part.__class__ is tuple for part in told(3, self.DEEDS)), told.__name__)
        self.assertTrue(all(row.__class__ is list for row in rows_after(3, self.DEEDS)))
        self.assertTrue(all(entry.__class__ is tuple for row in rows_after(3, self.DEEDS) for entry in row))


class Sizes(StoryTest):
    def test_four_hundred_deeds_and_beyond(self):
        for many in (400, 700):
            deeds = lead_of(12, range(7)) + [("say", 12, "a")] * (many - 9) + [("settled", 12)]
            self.assertEqual(answers(13, deeds)[8:-1], list(range(many - 9)))
            self.assertEqual(answers(13, [("rise", 12)] * many)[-1], 13 * many - 1)

    def test_more_scribes_than_thirteen(self):
        for count in (14, 40, 120):
            most = range(count // 2 + 1)
            deeds = lead_of(count - 1, most) + [("say", count - 1, "a")] + writes(count - 1, most, [0]) + [("settled", count - 1)]
            self.assertEqual(answers(count, deeds)[-1], [(0, "a")])
            self.assertEqual(settled_after(count, deeds), [(0, "a")])

    def test_long_sayings(self):
        deeds = lead_of(0, [0]) + [("say", 0, "a" * 5000), ("write", 0, 0, 0), ("settled", 0)]
        self.told(1, deeds, [[(0, "a" * 5000)]])


if __name__ == "__main__":
    unittest.main()
