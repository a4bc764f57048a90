"""A story told a second time, for the tests: nothing is kept but what happened, and all else is looked up in that."""


class Retelling:
    def __init__(self, count):
        self.count = count
        self.past = []

    def promised(self, scribe):
        return max([what[2] for what in self.past if what[0] in ("promised", "put") and what[1] == scribe], default=-1)

    def seen(self, scribe):
        return max([what[2] for what in self.past if what[0] in ("rose", "fell") and what[1] == scribe], default=-1)

    def row(self, scribe):
        return {what[3]: (what[2], what[4]) for what in self.past if what[0] == "put" and what[1] == scribe}

    def writings(self):
        return [(number, scribe, place, saying) for kind, scribe, number, place, saying in
                [what for what in self.past if what[0] == "put"]]

    def is_up(self, scribe):
        turns = [what[0] for what in self.past if what[0] in ("stopped", "woke") and what[1] == scribe]
        return not turns or turns[-1] == "woke"

    def lead(self, scribe):
        """What happened since the scribe rose last, from that on, or None where it leads no more."""
        found = None
        for at, what in enumerate(self.past):
            if what[0] in ("rose", "fell", "stopped") and what[1] == scribe:
                found = at if what[0] == "rose" else None
        return None if found is None else self.past[found:]

    def said(self, scribe):
        """What is said by the scribe's lead, or None where that is not opened."""
        rows, said = {}, None
        for what in self.lead(scribe) or []:
            if what[0] == "told" and what[1] == scribe and said is None:
                rows[what[2]] = what[3]
                if len(rows) > self.count / 2:
                    entries = sorted((place, entry) for row in rows.values() for place, entry in row.items())
                    said = {place: saying for place, (number, saying) in entries}
            if what[0] == "said" and what[1] == scribe:
                said = {**said, what[2]: what[3]}
        return said

    def do(self, deed):
        kind, own, *rest = deed
        others = rest[:1] if kind in ("ask", "write") else []
        if any(scribe not in range(self.count) for scribe in [own, *others]):
            return "no scribe"
        return getattr(self, kind)(own, *rest)

    def refused(self, own, other, number):
        if self.promised(other) <= number:
            return False
        self.past.append(("fell", own, self.promised(other)))
        return True

    def rise(self, own):
        if not self.is_up(own):
            return None
        number = next(n for n in range(self.seen(own) + 1, self.seen(own) + self.count + 1) if n % self.count == own)
        self.past.append(("rose", own, number))
        return number

    def ask(self, own, other):
        lead = self.lead(own)
        if lead is None or not self.is_up(other):
            return None
        if self.refused(own, other, lead[0][2]):
            return False
        self.past.append(("promised", other, lead[0][2]))
        self.past.append(("told", own, other, self.row(other)))
        return True

    def say(self, own, saying):
        said = self.said(own)
        if said is None:
            return None
        place = min(set(range(len(said) + 1)) - set(said))
        self.past.append(("said", own, place, saying))
        return place

    def write(self, own, other, place):
        said = self.said(own)
        if said is None or place not in said or not self.is_up(other):
            return None
        number = self.lead(own)[0][2]
        if self.refused(own, other, number):
            return False
        self.past.append(("put", other, number, place, said[place]))
        return True

    def settled(self, own):
        lead = self.lead(own)
        if lead is None:
            return []
        puts = {what[1:] for what in lead if what[0] == "put" and what[2] == lead[0][2]}
        said = self.said(own) or {}
        return [(place, said[place]) for place in sorted(said)
                if sum(put[2] == place for put in puts) > self.count / 2]

    def stop(self, own):
        was_up = self.is_up(own)
        if was_up:
            self.past.append(("stopped", own))
        return was_up

    def wake(self, own):
        was_up = self.is_up(own)
        if not was_up:
            self.past.append(("woke", own))
        return not was_up


def settled_by_looking(count, writings):
    """What is settled, as (place, number, saying), asked of every place and number by itself."""
    found = []
    for place in sorted({writing[2] for writing in writings}):
        for number in sorted({writing[0] for writing in writings if writing[2] == place}):
            here = [writing for writing in writings if writing[0] == number and writing[2] == place]
            if len({writing[1] for writing in here}) > count / 2:
                found += [(place, number, saying) for saying in sorted({writing[3] for writing in here})]
    return found
