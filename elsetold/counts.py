"""How many tell and hear, when the last one hears, and where the cry dies, however long the ways are."""

from elsetold.beats import check_beat
from elsetold.goings import goings
from elsetold.reaches import own_night
from elsetold.walks import ways_from
from elsetold.webs import person, place_on


def telling_rows(web, least):
    """Give a tuple (start, many) for each row of tellings, one a beat, so many from the beat start on."""
    rows = []
    for way, start, back, meet in goings(web, least):
        rows.append((start, meet))
        rows.append((back, way[2] - meet))
    return rows


def hearing_rows(web, least):
    """Give a tuple (first, last) for each row of places, of which one hears at each beat from first to last."""
    rows = [(beat, beat) for beat in least.values() if beat > 0]
    for way, start, back, meet in goings(web, least):
        # A spot at which both sides meet is one place: only the first side has it. The ends are in already.
        rows.append((start + 1, start + min(meet, way[2] - 1)))
        rows.append((back + 1, back + way[2] - 1 - meet))
    return [(first, last) for first, last in rows if first <= last]


def many_at(rows, beat):
    """Give in how many of the rows somebody hears at the beat."""
    return len([first for first, last in rows if first <= beat <= last])


def many_made_by(web, least, beat):
    """Give how many tellings have been made by the beat, those of this beat too."""
    return sum([max(0, min(many, beat + 1 - start)) for start, many in telling_rows(web, least)])


def last_hearing(web, least):
    """Give the last beat at which anybody hears, 0 where nobody does."""
    return max([last for _, last in hearing_rows(web, least)], default=0)


def is_told_by_all(ends, least, name, beat):
    """Tell whether one of the folk, who hears at the beat, does so from all sides."""
    return all([least.get((other, (beat - beats) % 2)) == beat - beats for other, beats in ends[name]])


def tellings(web, starters):
    """Give how many tellings there are in all."""
    own, least = own_night(web, starters)
    return sum([many for _, many in telling_rows(own, least)])


def tellings_by(web, starters, beat):
    """Give how many tellings have been made by the beat, those of this beat too."""
    own, least = own_night(web, starters)
    check_beat(beat)
    return many_made_by(own, least, beat)


def how_many_hear(web, starters, beat):
    """Give how many places hear at the beat."""
    own, least = own_night(web, starters)
    check_beat(beat)
    return many_at(hearing_rows(own, least), beat)


def last_beat(web, starters):
    """Give the last beat at which anybody hears, 0 where nobody does."""
    own, least = own_night(web, starters)
    return last_hearing(own, least)


def loudest(web, starters):
    """Give the tuple (many, beat) of the greatest number that hear at one beat, and the first such beat."""
    own, least = own_night(web, starters)
    rows = hearing_rows(own, least)
    # More hear than a beat ahead only where some row begins.
    many, early = max([(many_at(rows, first), -first) for first, _ in rows], default=(0, 0))
    return many, -early


def dying(web, starters):
    """Give the rising list of (beat, place), of all hearings at which nobody is told on."""
    own, least = own_night(web, starters)
    ends = ways_from(own)
    found = [(start + meet, place_on(way, meet)) for way, start, _, meet in goings(own, least) if 0 < meet < way[2]]
    for (name, _), beat in least.items():
        if beat > 0 and is_told_by_all(ends, least, name, beat):
            found.append((beat, person(name)))
    return sorted(found)
