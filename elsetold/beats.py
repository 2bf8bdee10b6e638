"""Who begins a cry, and who tells whom at each beat of a near web's night."""

from elsetold.errors import NoBeat, NoStarters, TooMany
from elsetold.forms import is_name, is_row, is_whole
from elsetold.webs import own_web, person, places_beside

MOST_NEAR = 400


def own_starters(web, starters):
    """Give a copy of the starters as a list; refuse what are none of the web."""
    if not are_starters(web, starters):
        raise NoStarters("these are no starters of the web")
    return list(starters)


def are_starters(web, thing):
    """Tell whether it is a list of unlike folk of the web, one at least."""
    if not is_row(thing) or len(thing) == 0:
        return False
    if not all([is_name(name) and name in web[0] for name in thing]):
        return False
    return len(set(thing)) == len(thing)


def check_beat(beat):
    """Refuse what is no whole number from 0 on."""
    if not is_whole(beat) or beat < 0:
        raise NoBeat("this is no beat")


def check_near(web):
    """Refuse a web that is not near."""
    many = sum([way[2] for way in web[1]])
    if many > MOST_NEAR:
        raise TooMany(many)


def all_beside(web):
    """Give a dict from all places of a near web to the lists of their neighbours."""
    places = [person(name) for name in web[0]]
    for one, other, beats in web[1]:
        places.extend([(one, other, number) for number in range(1, beats)])
    return {place: places_beside(web, place) for place in places}


def first_tellings(beside, starters):
    """Give the rising list of the tellings of beat 0."""
    return sorted([(person(name), other) for name in starters for other in beside[person(name)]])


def next_beat(beside, tellings):
    """Give the rising list of the tellings at the beat behind these, of all who were told."""
    told_by = {}
    for one, other in tellings:
        told_by.setdefault(other, []).append(one)
    return sorted([(one, other) for one in told_by for other in beside[one] if other not in told_by[one]])


def night_of(web, starters):
    """Give the tellings of each beat from 0 on, until nobody tells, of a near web."""
    beside = all_beside(web)
    night = []
    tellings = first_tellings(beside, starters)
    while tellings:
        night.append(tellings)
        tellings = next_beat(beside, tellings)
    return night


def beat_by_beat(web, starters):
    """Give a near web's night: for each beat the rising list of its tellings."""
    own = own_web(web)
    begun = own_starters(own, starters)
    check_near(own)
    return night_of(own, begun)


def hearers_at(web, starters, beat):
    """Give the rising list of the places that hear the cry at the beat, in a near web."""
    own = own_web(web)
    begun = own_starters(own, starters)
    check_beat(beat)
    check_near(own)
    night = night_of(own, begun)
    if not 1 <= beat <= len(night):
        return []
    return sorted({telling[1] for telling in night[beat - 1]})
