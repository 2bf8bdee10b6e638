"""Which of the starters a walk comes from, and how the nights of two lots of starters differ."""

from elsetold.beats import check_beat, own_starters
from elsetold.goings import goings
from elsetold.reaches import own_night, reach_of
from elsetold.walks import least_walks, ways_from
from elsetold.webs import own_place, own_web, parts, place_on, places_beside


def whose(web, starters, place, beat):
    """Give, in the order of names, the starters who have a walk of just so many beats to the place."""
    own = own_web(web)
    begun = own_starters(own, starters)
    here = own_place(own, place)
    check_beat(beat)
    ends = ways_from(own)
    turns = len(places_beside(own, here)) > 0
    told = []
    for name in sorted(begun):
        beats = reach_of(own, least_walks(ends, [name]), here, beat % 2)
        if beats is not None and (beats == beat or (turns and beats < beat)):
            told.append(name)
    return told


def gone_twice(web, starters):
    """Give the parts in which the cry goes each beat of each way twice, each a rising list of its folk."""
    own, least = own_night(web, starters)
    # Who began has the reach 0, and an odd one just where an odd walk comes from one who began.
    odd = [name for name in own[0] if least.get((name, 0)) == 0 and (name, 1) in least]
    return [part for part in parts(own) if any([name in odd for name in part])]


def alike_from(web, starters, others):
    """Give the least beat such that at it and all later ones the same places hear by both lots."""
    own, least = own_night(web, starters)
    also = least_walks(ways_from(own), own_starters(own, others))
    last = 0
    # On a way the last beat at which both differ is one at which the cry of either lot meets itself there.
    for way, start, _, meet in goings(own, least) + goings(own, also):
        place, kind = place_on(way, meet), (start + meet) % 2
        one, other = reach_of(own, least, place, kind), reach_of(own, also, place, kind)
        if one != other:
            last = max(last, one or 0, other or 0)
    return last + 1 if last > 0 else 0


def told_apart(web, starters, others):
    """Give the least (beat, name) at which one of the folk hears by one lot only, None where there is none."""
    own, least = own_night(web, starters)
    also = least_walks(ways_from(own), own_starters(own, others))
    only = [(beat, name) for (name, kind), beat in least.items() if also.get((name, kind)) != beat]
    only.extend([(beat, name) for (name, kind), beat in also.items() if least.get((name, kind)) != beat])
    return min([(beat, name) for beat, name in only if beat > 0], default=None)
