"""Who should begin: alone, so that a place hears at some beats, or two together."""

from elsetold.counts import last_hearing
from elsetold.errors import NoBeat
from elsetold.forms import are_beats
from elsetold.reaches import heard_beats
from elsetold.walks import both_least, least_walks, ways_from
from elsetold.webs import own_place, own_web


def nights_alone(web):
    """Give a dict from all folk to the least walks from each of them alone."""
    ends = ways_from(web)
    return {name: least_walks(ends, [name]) for name in web[0]}


def last_alone(web):
    """Give a dict from all folk to the last beat at which anybody hears where they begin alone."""
    return {name: last_hearing(web, least) for name, least in nights_alone(web).items()}


def who_have(lasts, beat):
    """Give a tuple of the beat and the list of all who have it."""
    return beat, [name for name, last in lasts.items() if last == beat]


def soonest(web):
    """Give the tuple (beat, names) of the least last beat of one who begins alone, and of all who have it."""
    lasts = last_alone(own_web(web))
    return who_have(lasts, min(lasts.values()))


def latest(web):
    """Give the tuple (beat, names) of the greatest last beat of one who begins alone, and of all who have it."""
    lasts = last_alone(own_web(web))
    return who_have(lasts, max(lasts.values()))


def alone_by(web, place, beats):
    """Give the rising list of those who, beginning alone, let the place hear at just these beats."""
    own = own_web(web)
    here = own_place(own, place)
    if not are_beats(beats):
        raise NoBeat("this is no rising list of beats")
    wanted = list(beats)
    return [name for name, least in nights_alone(own).items() if heard_beats(own, least, here) == wanted]


def best_two(web):
    """Give the least tuple (beat, one, other) of two who let all others hear together, None where no two do."""
    own = own_web(web)
    folk = own[0]
    nights = nights_alone(own)
    found = []
    for at, one in enumerate(folk):
        for other in folk[at + 1:]:
            least = both_least(nights[one], nights[other])
            # A reach is a hearing, but for the 0 of these two, who need not hear.
            if len({name for name, _ in least}) == len(folk):
                found.append((last_hearing(own, least), one, other))
    return min(found, default=None)
