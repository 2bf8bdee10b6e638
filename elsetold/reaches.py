"""When a place hears the cry, of whom, and whom it tells, however long the ways are."""

from elsetold.beats import check_beat, own_starters
from elsetold.errors import NoNeighbour
from elsetold.walks import least_walks, ways_from
from elsetold.webs import folk_beside, own_place, own_web, places_beside


def own_night(web, starters):
    """Give a copy of the web, and the least walks to all its folk from those who began."""
    own = own_web(web)
    begun = own_starters(own, starters)
    return own, least_walks(ways_from(own), begun)


def arrivals(web, least, place, kind):
    """Give a tuple (beats, name, beats at the name) for each of the folk beside the place.

    It is of the least walk of the kind that comes straight from this one; of who has none there is no tuple.
    """
    found = []
    for name, more in folk_beside(web, place):
        beats = least.get((name, (kind - more) % 2))
        if beats is not None:
            found.append((beats + more, name, beats))
    return found


def reach_of(web, least, place, kind):
    """Give the fewest beats of a walk of the kind to the place, None where there is none."""
    return min([beats for beats, _, _ in arrivals(web, least, place, kind)], default=None)


def is_at(web, least, place, beat):
    """Tell whether the place hears or begins the cry at the beat."""
    return reach_of(web, least, place, beat % 2) == beat


def heard_beats(web, least, place):
    """Give the rising list of the beats at which the place hears."""
    found = [reach_of(web, least, place, kind) for kind in (0, 1)]
    return sorted([beat for beat in found if beat is not None and beat > 0])


def both_sides(web, starters, place, beat):
    """Give the rising lists of the neighbours of whom the place hears at the beat, and of those whom it tells then."""
    own, least = own_night(web, starters)
    here = own_place(own, place)
    check_beat(beat)
    if not is_at(own, least, here, beat):
        return [], []
    near = places_beside(own, here)
    # A neighbour that is reached a beat ahead has told the place; each other one is reached a beat later.
    tellers = [other for other in near if is_at(own, least, other, beat - 1)]
    return tellers, [other for other in near if other not in tellers]


def reaches(web, starters, place):
    """Give the place's least even and least odd number of beats from a starter, as a tuple."""
    own, least = own_night(web, starters)
    here = own_place(own, place)
    return reach_of(own, least, here, 0), reach_of(own, least, here, 1)


def hearings(web, starters, place):
    """Give the rising list of the beats at which the place hears the cry."""
    own, least = own_night(web, starters)
    return heard_beats(own, least, own_place(own, place))


def heard_of(web, starters, place, beat):
    """Give the rising list of the neighbours of whom the place hears at the beat."""
    return both_sides(web, starters, place, beat)[0]


def tells(web, starters, place, beat):
    """Give the rising list of the neighbours whom the place tells at the beat."""
    return both_sides(web, starters, place, beat)[1]


def told_at(web, starters, place, other):
    """Give the rising list of the beats at which the place tells the other one, its neighbour."""
    own, least = own_night(web, starters)
    here = own_place(own, place)
    there = own_place(own, other)
    if there not in places_beside(own, here):
        raise NoNeighbour("these are no neighbours")
    found = [reach_of(own, least, here, kind) for kind in (0, 1)]
    return sorted([beat for beat in found if beat is not None and not is_at(own, least, there, beat - 1)])
