"""Stories: deeds that are done one after the other, their answers, and what is there after them."""

from scriberow.counting import settled_in
from scriberow.errors import NoScribe
from scriberow.hall import Hall


def done(hall, deed):
    kind = deed[0]
    if kind == "rise":
        return hall.rise(deed[1])
    if kind == "ask":
        return hall.ask(deed[1], deed[2])
    if kind == "say":
        return hall.say(deed[1], deed[2])
    if kind == "write":
        return hall.have_write(deed[1], deed[2], deed[3])
    if kind == "settled":
        return hall.known_settled(deed[1])
    if kind == "stop":
        return hall.be_stopped(deed[1])
    return hall.come_up(deed[1])


def answer_to(hall, deed):
    # In a story the refusal is told as a text, so that the deeds after it are still done.
    try:
        return done(hall, deed)
    except NoScribe:
        return "no scribe"


def hall_after(count, deeds):
    hall = Hall(count)
    for deed in deeds:
        answer_to(hall, deed)
    return hall


def answers(count, deeds):
    hall = Hall(count)
    return [answer_to(hall, deed) for deed in deeds]


def writings_after(count, deeds):
    return hall_after(count, deeds).writings


def row_by_places(row):
    return [(place, row[place][0], row[place][1]) for place in sorted(row)]


def rows_after(count, deeds):
    return [row_by_places(scribe.row) for scribe in hall_after(count, deeds).scribes]


def promised_after(count, deeds):
    return [scribe.promised for scribe in hall_after(count, deeds).scribes]


def settled_after(count, deeds):
    return settled_in(count, writings_after(count, deeds))
