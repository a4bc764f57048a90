"""The hall of the scribes: who is up, who leads, and all that was put."""

from scriberow.counting import best_of, free_place, is_most
from scriberow.errors import NoScribe
from scriberow.scribe import Scribe


class Lead:
    def __init__(self, number, count):
        self.number = number
        self.count = count
        self.told = {}
        self.opened = False
        self.said = {}
        self.hands = {}

    def hear(self, scribe, row):
        # What a lead says must not change once it is opened, whatever is told by more scribes.
        if self.opened:
            return
        # A copy, since the scribe goes on writing in its row; by scribes, so that each is counted once.
        self.told[scribe] = dict(row)
        if is_most(self.count, len(self.told)):
            self.begin_saying()

    def begin_saying(self):
        self.opened = True
        for place, entry in best_of(list(self.told.values())).items():
            self.said[place] = entry[1]

    def say(self, saying):
        place = free_place(self.said)
        self.said[place] = saying
        return place

    def take_hand(self, scribe, place):
        hands = self.hands.setdefault(place, {})
        hands[scribe] = True

    def settled_pairs(self):
        places = [place for place in sorted(self.hands) if is_most(self.count, len(self.hands[place]))]
        return [(place, self.said[place]) for place in places]


# Every method asks first whether the numbers are those of scribes, so that nothing is done where one is not.
class Hall:
    def __init__(self, count):
        self.count = count
        self.scribes = [Scribe(own, count) for own in range(count)]
        self.leads = {}
        self.stopped = {}
        self.writings = []

    def check(self, number):
        # A list would take a number below nought as one from its end.
        if not 0 <= number < self.count:
            raise NoScribe("no scribe has this number")

    def rise(self, own):
        self.check(own)
        if own in self.stopped:
            return None
        number = self.scribes[own].rise()
        self.leads[own] = Lead(number, self.count)
        return number

    def ask(self, own, other):
        self.check(own)
        self.check(other)
        if own not in self.leads or other in self.stopped:
            return None
        lead = self.leads[own]
        asked = self.scribes[other]
        if not asked.promise(lead.number):
            self.fall(own, asked.promised)
            return False
        lead.hear(other, asked.row)
        return True

    def fall(self, own, number):
        self.leads.pop(own)
        self.scribes[own].see(number)

    def say(self, own, saying):
        self.check(own)
        if own not in self.leads or not self.leads[own].opened:
            return None
        return self.leads[own].say(saying)

    def have_write(self, own, other, place):
        self.check(own)
        self.check(other)
        if own not in self.leads or place not in self.leads[own].said or other in self.stopped:
            return None
        lead = self.leads[own]
        writer = self.scribes[other]
        saying = lead.said[place]
        if not writer.put(lead.number, place, saying):
            self.fall(own, writer.promised)
            return False
        self.writings.append((lead.number, other, place, saying))
        lead.take_hand(other, place)
        return True

    def known_settled(self, own):
        self.check(own)
        if own not in self.leads:
            return []
        return self.leads[own].settled_pairs()

    def be_stopped(self, own):
        self.check(own)
        if own in self.stopped:
            return False
        self.stopped[own] = True
        self.leads.pop(own, None)
        return True

    def come_up(self, own):
        self.check(own)
        if own not in self.stopped:
            return False
        self.stopped.pop(own)
        return True
