"""Tellings under way that perhaps nobody began: what comes of them next, and when they come again."""

from elsetold.beats import all_beside, check_near, next_beat
from elsetold.errors import NoTellings, TooMany
from elsetold.forms import is_row, is_row_of
from elsetold.webs import is_place, own_web, places_beside

MOST_AGAIN = 5000


def own_tellings(web, said):
    """Give a copy of the tellings, as tuples; refuse what are no unlike ones of the web."""
    if not is_row(said) or not all([is_telling(web, each) for each in said]):
        raise NoTellings("these are no tellings of the web")
    own = [(tuple(one), tuple(other)) for one, other in said]
    if len(set(own)) < len(own):
        raise NoTellings("these are no unlike tellings")
    return own


def is_telling(web, thing):
    """Tell whether it is a telling of the web: a tuple of two neighbouring places."""
    if not is_row_of(2, thing):
        return False
    one, other = thing
    return is_place(web, one) and is_place(web, other) and tuple(other) in places_beside(web, tuple(one))


def own_under_way(web, said):
    """Give a dict from all places of the web to their neighbours, and a copy of the tellings."""
    own = own_web(web)
    tellings = own_tellings(own, said)
    check_near(own)
    return all_beside(own), tellings


def next_tellings(web, said):
    """Give the rising list of the tellings at the beat behind these."""
    beside, tellings = own_under_way(web, said)
    return next_beat(beside, tellings)


def round_of(web, said):
    """Give the tuple (first, length): the beats until there are tellings that come again, and from then till again."""
    beside, tellings = own_under_way(web, said)
    # Places are told by numbers here: tellings of numbers go on just so, and are sooner gone through.
    number = {place: at for at, place in enumerate(beside)}
    numbers = [[number[other] for other in beside[place]] for place in beside]
    return first_again(numbers, [(number[one], number[other]) for one, other in tellings])


def first_again(beside, tellings):
    """Give the tuple (first, length) of tellings of places that are told by their numbers in the list of neighbours."""
    edges = [(one, other) for one, near in enumerate(beside) for other in near]
    bits = {edge: 1 << at for at, edge in enumerate(edges)}
    met = {}
    now = tellings
    for beat in range(MOST_AGAIN + 1):
        # One number for all tellings of a beat: thousands of whole lists would not be kept as lightly.
        mark = sum([bits[telling] for telling in now])
        if mark in met:
            return met[mark], beat - met[mark]
        met[mark] = beat
        now = next_beat(beside, now)
    raise TooMany(MOST_AGAIN)
