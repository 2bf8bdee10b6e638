"""A desk: a Night by rows of words."""

from elsetold.errors import NoForm, NoNight
from elsetold.nights import Night
from elsetold.texts import is_number, number_of, read_web
from elsetold.webs import person

WEB_AHEAD = "web\n"
# How many words a row has by its first one; `begin` may have more.
MANY_WORDS = {
    "begin": 3, "on": 2, "add": 4, "lose": 3, "back": 1, "now": 1, "heard": 3, "hears": 2, "told": 2, "quiet": 1,
    "last": 2,
}


def own_words(row):
    """Give the words of a row other than a web's; refuse what has the form of none."""
    if not isinstance(row, str) or not is_form(row.split(" ")) or "\n" in row:
        raise NoForm("this is no row of the desk")
    return row.split(" ")


def is_form(words):
    """Tell whether the words have the form of a row."""
    if "" in words or words[0] not in MANY_WORDS:
        return False
    if words[0] == "begin":
        return len(words) >= MANY_WORDS["begin"]
    if words[0] in ("on", "add") and not is_number(words[-1]):
        return False
    return len(words) == MANY_WORDS[words[0]]


def joined(words, none):
    """Give the words with blanks between, or the other word where there are none."""
    return " ".join(words) if words else none


def do_begin(night, words):
    """Begin a cry."""
    night.begin(words[1], words[2:])
    return "ok"


def do_on(night, words):
    """Go on."""
    night.go_on(number_of(words[1]))
    return "ok"


def do_add(night, words):
    """Add a way."""
    night.add(words[1], words[2], number_of(words[3]))
    return "ok"


def do_lose(night, words):
    """Take a way away."""
    night.lose(words[1], words[2])
    return "ok"


def do_back(night, _):
    """Undo the last deed."""
    night.back()
    return "ok"


def tell_now(night, _):
    """Tell the beat."""
    return str(night.beat_now())


def tell_heard(night, words):
    """Tell the beats at which one of the folk heard a cry."""
    return joined([str(beat) for beat in night.heard_at(words[1], person(words[2]))], "never")


def tell_hears(night, words):
    """Tell which cries one of the folk hears now."""
    return joined(night.cries_heard(person(words[1])), "none")


def tell_told(night, words):
    """Tell how many tellings of a cry were made till now."""
    return str(night.told(words[1]))


def tell_quiet(night, _):
    """Tell which cries are quiet."""
    return joined(night.quiet_cries(), "none")


def tell_last(night, words):
    """Tell the beat of a cry's last hearing."""
    return str(night.last_of(words[1]))


ANSWERS = {
    "begin": do_begin, "on": do_on, "add": do_add, "lose": do_lose, "back": do_back, "now": tell_now,
    "heard": tell_heard, "hears": tell_hears, "told": tell_told, "quiet": tell_quiet, "last": tell_last,
}


class Desk:
    """A Night of a told web, or of none, and what is said of it."""

    def __init__(self):
        """Have no Night."""
        self.night = None

    def say(self, row):
        """Do what the row says, and give the answer."""
        if isinstance(row, str) and row.startswith(WEB_AHEAD):
            self.night = Night(read_web(row[len(WEB_AHEAD):]))
            return "ok"
        words = own_words(row)
        if self.night is None:
            raise NoNight("the desk has no Night")
        answer = ANSWERS[words[0]]
        return answer(self.night, words)
