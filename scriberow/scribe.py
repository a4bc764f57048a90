"""A scribe, its book, and what it promises and puts."""

from scriberow.counting import next_number


class Scribe:
    def __init__(self, own, count):
        self.own = own
        self.count = count
        self.promised = -1
        self.row = {}
        self.seen = -1

    def promise(self, number):
        if number < self.promised:
            return False
        self.promised = number
        return True

    def put(self, number, place, saying):
        # To put under a number is to promise it too, and the two are refused alike.
        if not self.promise(number):
            return False
        self.row[place] = (number, saying)
        return True

    # What was promised to others is passed over here: a scribe may rise under a number that even itself refuses.
    def rise(self):
        self.seen = next_number(self.count, self.own, self.seen)
        return self.seen

    def see(self, number):
        self.seen = max(self.seen, number)


def tried_once(scribe, attempt):
    if attempt[0] == "promise":
        return scribe.promise(attempt[1])
    return scribe.put(attempt[1], attempt[2], attempt[3])


def tried(scribe, tries):
    return [tried_once(scribe, attempt) for attempt in tries]
