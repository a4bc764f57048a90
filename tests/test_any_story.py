"""What holds in any story: many told at random, each time the same ones, and some kinds of them told in full."""

import itertools
import random
import unittest

from retelling import Retelling, settled_by_looking
from scriberow.counting import scribe_of
from scriberow.story import answers, promised_after, rows_after, settled_after, writings_after


def any_deed(chance, count, strays):
    """A deed of scribes, or now and then, where strays are asked for, of a number that is none's."""
    own, other = [chance.randrange(-1, count + 1) if strays and chance.random() < 0.1 else chance.randrange(count)
                  for _ in range(2)]
    kind = chance.choices(("rise", "ask", "say", "write", "settled", "stop", "wake"), (3, 12, 3, 12, 2, 1, 3))[0]
    if kind == "ask":
        return (kind, own, other)
    if kind == "say":
        return (kind, own, chance.choice("abcdefg"))
    if kind == "write":
        return (kind, own, other, chance.randrange(3))
    return (kind, own)


def any_turn(chance, count, own):
    """One that rises, asks and has write, and may be cut short at any visit."""
    asked = chance.sample(range(count), count // 2 + 1)
    turn = [("rise", own)] + [("ask", own, other) for other in asked] + [("say", own, chance.choice("abcdefg"))]
    for place in chance.sample(range(3), 2):
        turn += [("write", own, other, place) for other in chance.sample(range(count), chance.choice((1, 1, 1, count)))]
    return (turn + [("settled", own)])[: chance.randint(1, 2 * len(turn))]


def any_story(chance, count, many, strays):
    """Turns of several scribes, a deed of one and a deed of another, and other deeds among them."""
    turns = {own: [] for own in range(count)}
    deeds = []
    while len(deeds) < many:
        own = chance.randrange(count)
        if chance.random() < 0.15:
            deeds.append(any_deed(chance, count, strays))
            continue
        turns[own] = turns[own] or any_turn(chance, count, own)
        for _ in range(min(len(turns[own]), chance.randint(1, 9))):
            deeds.append(turns[own].pop(0))
    return deeds[:many]


class TwiceTold(unittest.TestCase):
    def same(self, count, deeds):
        second = Retelling(count)
        self.assertEqual(answers(count, deeds), [second.do(deed) for deed in deeds], (count, deeds))
        self.assertEqual(writings_after(count, deeds), second.writings(), (count, deeds))
        rows = [[(place, *entry) for place, entry in sorted(second.row(own).items())] for own in range(count)]
        self.assertEqual(rows_after(count, deeds), rows, (count, deeds))
        self.assertEqual(promised_after(count, deeds), [second.promised(own) for own in range(count)], (count, deeds))
        settled = settled_by_looking(count, second.writings())
        self.assertEqual(settled_after(count, deeds), list(dict.fromkeys((place, saying) for place, _, saying in settled)))

    def test_any_stories(self):
        chance = random.Random(5)
        for _ in range(600):
            count = chance.randint(1, 5)
            self.same(count, any_story(chance, count, 40, True))

    def test_a_long_story_of_thirteen(self):
        chance = random.Random(13)
        for _ in range(3):
            self.same(13, any_story(chance, 13, 400, True))

    def test_all_short_stories_of_one_scribe(self):
        kinds = [("rise", 0), ("ask", 0, 0), ("say", 0, "a"), ("write", 0, 0, 0), ("settled", 0), ("stop", 0), ("wake", 0)]
        for deeds in itertools.product(kinds, repeat=5):
            second = Retelling(1)
            self.assertEqual(answers(1, list(deeds)), [second.do(deed) for deed in deeds], deeds)

    def test_an_answer_does_not_hang_on_later_deeds(self):
        chance = random.Random(3)
        deeds = any_story(chance, 3, 120, True)
        whole = answers(3, deeds)
        for many in range(len(deeds)):
            self.assertEqual(answers(3, deeds[:many]), whole[:many])


class NothingSettledIsLost(unittest.TestCase):
    def test_one_saying_at_a_place_and_none_other_written_from_then_on(self):
        chance = random.Random(14)
        several = overwritten = fallen = 0
        for _ in range(1500):
            count = chance.randint(1, 5)
            deeds = any_story(chance, count, 80, False)
            writings = writings_after(count, deeds)
            settled = settled_by_looking(count, writings)
            self.assertEqual(len(settled_after(count, deeds)), len({place for place, _, _ in settled}), (count, deeds))
            for place, number, saying in settled:
                for later in writings:
                    if later[2] == place and later[0] >= number:
                        self.assertEqual(later[3], saying, (count, deeds))
            several += len(settled) > len(settled_after(count, deeds))
            overwritten += len({writing[3] for writing in writings if writing[2] == 0}) > 1
            asked = [deed[0] in ("ask", "write") for deed in deeds]
            fallen += any(was and answer is False for was, answer in zip(asked, answers(count, deeds)))
        # The stories would show nothing if they all ran smoothly.
        self.assertGreater(min(several, overwritten, fallen), 100)

    def test_whose_the_numbers_are(self):
        chance = random.Random(2)
        for _ in range(200):
            count = chance.randint(1, 5)
            deeds = any_story(chance, count, 60, False)
            rises = [(deed[1], answer) for deed, answer in zip(deeds, answers(count, deeds)) if deed[0] == "rise"]
            for own, number in rises:
                if number is not None:
                    self.assertEqual(scribe_of(count, number), own)
            numbers = [number for own, number in rises if number is not None]
            self.assertEqual(len(numbers), len(set(numbers)), (count, deeds))

    def test_what_is_known_to_be_settled_is_settled(self):
        chance = random.Random(10)
        known = 0
        for _ in range(400):
            count = chance.randint(1, 5)
            deeds = any_story(chance, count, 80, False)
            settled = settled_after(count, deeds)
            for deed, answer in zip(deeds, answers(count, deeds)):
                if deed[0] == "settled":
                    known += len(answer)
                    self.assertLessEqual(set(answer), set(settled), (count, deeds))
        self.assertGreater(known, 100)

    def test_once_settled_settled_by_every_longer_story(self):
        chance = random.Random(1)
        for _ in range(60):
            count = chance.randint(1, 5)
            deeds = any_story(chance, count, 60, False)
            before = []
            for many in range(len(deeds) + 1):
                now = settled_after(count, deeds[:many])
                self.assertLessEqual(set(before), set(now), (count, deeds))
                before = now


class OneWhomNobodyDisturbs(unittest.TestCase):
    def undisturbed(self, count, deeds, own, most):
        """The deeds, then one that leads until none of the asked ones refuses, and the place of what it says."""
        deeds = deeds + [("wake", other) for other in sorted({own, *most})]
        refusals = []
        while True:
            deeds = deeds + [("rise", own)]
            for other in most:
                deeds = deeds + [("ask", own, other)]
                if answers(count, deeds)[-1] is False:
                    refusals.append(other)
                    break
            else:
                break
            self.assertEqual(len(refusals), len(set(refusals)), (count, deeds))
        deeds = deeds + [("say", own, "z")]
        return deeds, answers(count, deeds)[-1], refusals

    def test_all_places_up_to_what_it_says_are_settled(self):
        chance = random.Random(41)
        refused = above = 0
        for _ in range(400):
            count = chance.randint(1, 6)
            own = chance.randrange(count)
            most = chance.sample(range(count), count // 2 + 1)
            deeds, last, refusals = self.undisturbed(count, any_story(chance, count, 50, False), own, most)
            self.assertIsInstance(last, int)
            writing = [("write", own, other, place) for place in range(last + 1) for other in most]
            chance.shuffle(writing)
            found = answers(count, deeds + writing + [("settled", own)])
            self.assertEqual(found[len(deeds):-1], [True] * len(writing), (count, deeds))
            self.assertEqual([place for place, _ in found[-1]], list(range(last + 1)), (count, deeds))
            self.assertEqual(found[-1][last], (last, "z"), (count, deeds))
            self.assertLessEqual(set(found[-1]), set(settled_after(count, deeds + writing)), (count, deeds))
            refused += len(refusals) > 1
            above += last > 1
        self.assertGreater(min(refused, above), 10)

    def test_what_was_settled_is_what_it_says_there(self):
        before = [("rise", 0), ("ask", 0, 0), ("ask", 0, 1), ("ask", 0, 2), ("say", 0, "a"), ("say", 0, "b")]
        before += [("write", 0, 0, 1), ("write", 0, 1, 1), ("write", 0, 2, 1), ("write", 0, 2, 0)]
        for most in itertools.permutations(range(5), 3):
            deeds, last, refusals = self.undisturbed(5, before, 4, most)
            self.assertEqual(last, 2 if 2 in most else 0, most)
            self.assertEqual(refusals, [])
            writing = [("write", 4, other, place) for place in (0, 1) for other in most]
            told = [(0, "a" if 2 in most else "z"), (1, "b")]
            self.assertEqual(answers(5, deeds + writing + [("settled", 4)])[-1], told)

    def test_each_of_them_refuses_once(self):
        # Each of the three has promised a number of its own, one greater than the other.
        before = [("rise", 1), ("ask", 1, 1), ("rise", 2), ("rise", 2), ("ask", 2, 2), ("rise", 3)]
        before += [("rise", 3), ("rise", 3), ("ask", 3, 3)]
        deeds, last, refusals = self.undisturbed(5, before, 0, [1, 2, 3])
        self.assertEqual((last, refusals), (0, [1, 2, 3]))
        self.assertEqual(promised_after(5, deeds), [-1, 15, 15, 15, -1])
        deeds, last, refusals = self.undisturbed(5, before, 0, [3, 2, 1])
        self.assertEqual((last, refusals), (0, [3]))


if __name__ == "__main__":
    unittest.main()
