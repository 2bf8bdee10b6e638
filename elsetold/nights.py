"""A night that lives: cries that begin at some beat and go by themselves, and ways more and less between them."""

from elsetold.beats import own_starters
from elsetold.counts import last_hearing, many_made_by
from elsetold.errors import Busy, NoBeat, NoCry, Nothing, Twice
from elsetold.forms import is_name, is_whole
from elsetold.reaches import heard_beats
from elsetold.walks import least_walks, ways_from
from elsetold.ways import with_way, without_way
from elsetold.webs import is_place, own_place, own_web

MOST_ON = 1000000000000000000000000000000


class Cry:
    """A cry of a Night: it is never changed, so Nights may share it."""

    def __init__(self, name, beat, starters, web):
        """Keep what it is: all of these are known to be good, and are the cry's own."""
        self.name = name
        self.beat = beat
        self.starters = sorted(starters)
        self.web = web
        self.least = least_walks(ways_from(web), starters)
        self.last = beat + last_hearing(web, self.least)

    def beats_of(self, place):
        """Give the rising list of the Night's beats at which a place of the cry's web hears it, whenever they are."""
        return [self.beat + beat for beat in heard_beats(self.web, self.least, place)]

    def is_quiet(self, beat):
        """Tell whether it is quiet at the Night's beat."""
        return self.last <= beat

    def likeness(self):
        """Give what is the same of two cries that are."""
        return self.name, self.beat, self.starters, self.web


class Night:
    """A web, its beat, and the cries that have begun in it."""

    def __init__(self, web):
        """Begin at beat 0, without cries."""
        self.web = own_web(web)
        self.beat = 0
        self.begun = []
        # What stood ahead of each deed is kept whole: webs and lists of cries are never changed, only replaced.
        self.deeds = []
        self.past = []

    def __eq__(self, other):
        """Tell whether the other one is a Night of the same web, beat and cries, by whatever deeds."""
        if not isinstance(other, Night):
            return False
        if self.web != other.web or self.beat != other.beat:
            return False
        return [cry.likeness() for cry in self.begun] == [cry.likeness() for cry in other.begun]

    def __len__(self):
        """Give how many deeds stand."""
        return len(self.deeds)

    def begin(self, cry, starters):
        """Let these starters begin a cry of a new name now."""
        if not is_name(cry):
            raise NoCry("this is no name")
        if cry in self.cries():
            raise Twice("a cry of this name has begun")
        begun = own_starters(self.web, starters)
        self.keep(("begin", cry, begun))
        self.begun = [*self.begun, Cry(cry, self.beat, begun, self.web)]

    def go_on(self, beats):
        """Let so many beats go by."""
        if not is_whole(beats) or not 0 <= beats <= MOST_ON:
            raise NoBeat("no Night goes on by so many beats")
        self.keep(("go_on", beats))
        self.beat = self.beat + beats

    def add(self, one, other, beats):
        """Add a way to the web, where all is quiet."""
        web = with_way(self.web, one, other, beats)
        self.check_quiet()
        self.keep(("add", one, other, beats))
        self.web = web

    def lose(self, one, other):
        """Take a way from the web, where all is quiet."""
        web = without_way(self.web, one, other)
        self.check_quiet()
        self.keep(("lose", one, other))
        self.web = web

    def back(self):
        """Undo the last deed that stands."""
        if not self.deeds:
            raise Nothing("no deed stands")
        self.deeds.pop()
        self.web, self.beat, self.begun = self.past.pop()

    def keep(self, deed):
        """Keep the deed, and what stands ahead of it."""
        self.deeds.append(deed)
        self.past.append((self.web, self.beat, self.begun))

    def check_quiet(self):
        """Refuse to go on where some cry is not quiet."""
        if not all([cry.is_quiet(self.beat) for cry in self.begun]):
            raise Busy("some cry is not quiet yet")

    def cry_of(self, name):
        """Give the cry of this name; refuse what is none."""
        for cry in self.begun:
            if is_name(name) and cry.name == name:
                return cry
        raise NoCry("no such cry has begun")

    def web_now(self):
        """Give the web as it is now."""
        return own_web(self.web)

    def beat_now(self):
        """Give the beat."""
        return self.beat

    def cries(self):
        """Give the cries in the order in which they began."""
        return [cry.name for cry in self.begun]

    def heard_at(self, cry, place):
        """Give the rising list of the beats till now at which the place heard the cry."""
        found = self.cry_of(cry)
        here = own_place(found.web, place)
        return [beat for beat in found.beats_of(here) if beat <= self.beat]

    def cries_heard(self, place):
        """Give the cries that the place hears now, in the order in which they began."""
        here = own_place(self.web, place)
        # A spot of the web now may be none of the web in which a cry began.
        able = [cry for cry in self.begun if is_place(cry.web, here)]
        return [cry.name for cry in able if self.beat in cry.beats_of(here)]

    def told(self, cry):
        """Give how many tellings of the cry have been made till now."""
        found = self.cry_of(cry)
        return many_made_by(found.web, found.least, self.beat - found.beat)

    def last_of(self, cry):
        """Give the beat of the cry's last hearing, be it past or not."""
        return self.cry_of(cry).last

    def quiet_cries(self):
        """Give the cries that are quiet now, in the order in which they began."""
        return [cry.name for cry in self.begun if cry.is_quiet(self.beat)]

    def history(self):
        """Give the deeds that stand, as tuples of their names and what they were handed."""
        return [own_deed(deed) for deed in self.deeds]

    def twin(self):
        """Give another Night just so, with the same deeds."""
        other = Night(self.web)
        other.web, other.beat, other.begun = self.web, self.beat, self.begun
        other.deeds = self.history()
        other.past = list(self.past)
        return other


def own_deed(deed):
    """Give a copy of a deed that shares no list with it."""
    if deed[0] == "begin":
        return deed[0], deed[1], list(deed[2])
    return deed
