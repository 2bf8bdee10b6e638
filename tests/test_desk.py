"""A desk: rows of words, set beside a Night [3, 4, 31]."""

import random
import re
import unittest

from elsetold.counts import last_beat, tellings
from elsetold.desk import Desk
from elsetold.errors import (Busy, CryError, NoBeat, NoCry, NoFolk, NoForm, NoNight, NoPlace, NoStarters, NoText,
                             Nothing, NoWay, Taken, TooMany, Twice)
from elsetold.nights import Night
from elsetold.reaches import hearings
from elsetold.texts import read_web, show_web
from tests.support import END, ODD_THINGS, big_web, far_webs, folk_of, some_starters, some_webs, unchanged

ROW = "web\nfolk a b c\nway a b 2\nway b c 3"
WORD, NUMBER = "[^ \n]+", "(?:0|[1-9][0-9]*)"
FORMS = [f"begin {WORD}(?: {WORD})+", f"on {NUMBER}", f"add {WORD} {WORD} {NUMBER}", f"lose {WORD} {WORD}", "back",
         "now", f"heard {WORD} {WORD}", f"hears {WORD}", f"told {WORD}", "quiet", f"last {WORD}"]
FORM = re.compile("|".join(FORMS))
GOOD = ["begin hey a", "begin hey b c a", "on 0", "on 3", "add a c 1", "lose a b", "back", "now", "heard hey a",
        "hears a", "told hey", "quiet", "last hey"]
NO_ROWS = [
    "", " ", "\n", "web", "web ", "web folk a", "Web\nfolk a", " web\nfolk a", "webs\nfolk a", "begin", "begin hey",
    "begin hey ", "begin  hey a", "begin hey  a", "begin hey a ", " begin hey a", "begin hey a  b", "begin\they a",
    "begin hey\na", "Begin hey a", "on", "on ", "on  3", "on 3 ", "on 03", "on 00", "on -1", "on +1", "on x", "on 3 4",
    "on 1.0", "on 1_0", "on \u0661", "on \u00b2", "on 3\n", "\non 3", "on 3\non 4", "on 3\r", "add a b", "add a b x",
    "add a b 01", "add a b -1", "add a b 1 2", "add a 1", "add a  1", "add  a b 1", "add a b 1 ", "add a b 1\n", "lose",
    "lose a", "lose a b c", "lose a  b", "lose a b ", "back ", " back", "back 1", "back\n", "Back", "now ", "now now",
    "now\n", "heard", "heard hey", "heard hey a b", "heard  hey a", "heard hey a ", "heard hey\na", "hears", "hears ",
    "hears a b", "hears a ", "told", "told ", "told hey ho", "told  hey", "quiet ", "quiet hey", "last", "last ",
    "last hey ho", "history", "twin", "web_now", "go_on 3", "beat", "cries", "begin hey a\n", "len", "none", "ok",
]


def desk_of(*rows):
    """A desk to which these rows have been said."""
    desk = Desk()
    for row in rows:
        desk.say(row)
    return desk


class Case(unittest.TestCase):
    def assert_refused(self, error, desk, row):
        """The row is refused by this class, and leaves no trace."""
        before = self.all_said(desk)
        with self.assertRaises(error) as caught:
            unchanged(self, desk.say, row)
        self.assertIs(caught.exception.__class__, error, repr(row))
        self.assertEqual(self.all_said(desk), before)
        return caught.exception

    def all_said(self, desk):
        """What the desk tells of its Night."""
        said = []
        for row in ["now", "quiet", "hears a", "hears aa", "told hey", "last hey", "heard hey a", "heard hey aa"]:
            try:
                said.append(desk.say(row))
            except CryError as error:
                said.append(error.__class__)
        return said

    def assert_says(self, desk, *rows):
        """To each row, by turns, the desk answers the text behind it."""
        for row, told in zip(rows[::2], rows[1::2]):
            found = desk.say(row)
            self.assertEqual(found, told, row)
            self.assertIs(found.__class__, str)


class Says(Case):
    def test_a_night(self):
        self.assert_says(
            Desk(), ROW, "ok", "now", "0", "quiet", "none", "hears b", "none", "begin hey a", "ok", "told hey", "1",
            "last hey", "5", "on 2", "ok", "hears b", "hey", "heard hey b", "2", "heard hey c", "never", "quiet",
            "none", "told hey", "3", "on 3", "ok", "now", "5", "hears c", "hey", "quiet", "hey", "add a c 1", "ok",
            "begin ho c a", "ok", "on 4", "ok", "heard ho a", "6", "heard ho b", "7 8", "hears c", "none", "quiet",
            "hey ho", "back", "ok", "quiet", "hey", "now", "5", "back", "ok", "lose a c", "ok", "lose b a", "ok",
            "last hey", "5", "heard hey c", "5")

    def test_several_cries_with_blanks_between(self):
        self.assert_says(desk_of(ROW), "begin zoe b", "ok", "begin amy a c", "ok", "begin ned b", "ok", "on 2", "ok",
                         "hears a", "zoe ned", "hears b", "amy", "on 3", "ok", "quiet", "zoe amy ned", "heard amy b",
                         "2 3")

    def test_far(self):
        self.assert_says(Desk(), f"web\nfolk a b\nway a b {END}", "ok", f"on {10 ** 30}", "ok", "begin hey a", "ok",
                         f"on {END}", "ok", "now", str(10 ** 30 + END), "heard hey b", str(10 ** 30 + END), "told hey",
                         str(END), "last hey", str(10 ** 30 + END), "quiet", "hey")

    def test_a_new_web_is_a_new_night(self):
        desk = desk_of(ROW, "begin hey a", "on 9", "lose a b")
        self.assert_says(desk, "web\nfolk a b", "ok", "now", "0", "quiet", "none", "hears b", "none")
        self.assert_refused(NoCry, desk, "told hey")
        self.assert_refused(Nothing, desk, "back")
        self.assert_refused(NoPlace, desk, "hears c")
        self.assert_says(desk, ROW, "ok", "begin hey c", "ok", "back", "ok")
        self.assert_refused(Nothing, desk, "back")

    def test_two_desks_know_nothing_of_one_another(self):
        one, other = desk_of(ROW, "on 3"), Desk()
        self.assert_refused(NoNight, other, "now")
        self.assert_says(other, ROW, "ok", "now", "0")
        self.assert_says(one, "now", "3", "back", "ok", "now", "0")

    def test_said_by_name(self):
        desk = Desk()
        self.assertEqual([desk.say(row=ROW), desk.say(row="now")], ["ok", "0"])

    def test_words_that_are_rows_too(self):
        desk = desk_of("web\nfolk back never none web", "begin begin web", "begin none back", "begin on never")
        self.assert_says(desk, "quiet", "begin none on", "heard none none", "never", "hears web", "none")


class Refusals(Case):
    def test_no_form(self):
        for desk in [Desk(), desk_of(ROW), desk_of(ROW, "begin hey a", "on 1")]:
            for row in NO_ROWS:
                self.assert_refused(NoForm, desk, row)
            for thing in ODD_THINGS + [ROW.encode(), [ROW], ["now"], b"now"]:
                self.assert_refused(NoForm, desk, thing)

    def test_no_night(self):
        for row in GOOD + ["on " + "9" * 40, "begin ! ?", "heard ! ?", "hears \u00e4", "lose a a", "add x y 0",
                           "told 1"]:
            self.assert_refused(NoNight, Desk(), row)
        desk = Desk()
        self.assertEqual(self.assert_refused(NoText, desk, "web\nfolk b a").row, None)
        self.assert_refused(NoNight, desk, "now")

    def test_a_webs_text(self):
        for desk in [Desk(), desk_of(ROW, "begin hey a", "on 1")]:
            for text, row in [("", 0), ("\n", 0), ("folk", 0), (" folk a", 0), ("\nfolk a", 0), ("folk a\n", 1),
                              ("folk a b\nway a b 01", 1), ("folk a b\nway a b 1\n\n", 2), ("folk b a", None),
                              ("folk a b\nway a b 0", None), ("web\nfolk a", 0), ("now", 0), ("folk a\nnow", 1)]:
                self.assertEqual(self.assert_refused(NoText, desk, "web\n" + text).row, row)

    def test_any_words_of_one_sign_have_form(self):
        desk = desk_of(ROW, "begin hey a", "on 5")
        for word in ["A", "a1", "1", "abcdefghi", "!", "a-b", "\u00e4", "a\tb", "\t", "z", "0", "\u00a0", "\r"]:
            self.assert_refused(NoPlace, desk, f"hears {word}")
            self.assert_refused(NoPlace, desk, f"heard hey {word}")
            self.assert_refused(NoCry, desk, f"heard {word} {word}")
            self.assert_refused(NoCry, desk, f"told {word}")
            self.assert_refused(NoCry, desk, f"last {word}")
            self.assert_refused(NoFolk, desk, f"lose a {word}")
            self.assert_refused(NoFolk, desk, f"lose {word} a")
            self.assert_refused(NoFolk, desk, f"add {word} a 0")
            self.assert_refused(NoStarters, desk, f"begin ho a {word}")
            if word != "z":
                self.assert_refused(NoCry, desk, f"begin {word} z")

    def test_as_the_night_refuses(self):
        desk = desk_of(ROW, "begin hey a")
        for row, error in [
            ("begin hey a", Twice), ("begin hey z", Twice), ("begin Hey z", NoCry), ("begin ho z", NoStarters),
            ("begin ho a a", NoStarters), (f"on {10 ** 30 + 1}", NoBeat), ("on " + "9" * 40, NoBeat),
            ("on " + "9" * 3990, NoBeat), ("add a a 0", NoFolk), ("add a z 0", NoFolk), ("add a c 0", NoBeat),
            (f"add a c {END + 1}", NoBeat), ("add b a 0", NoBeat), ("add b a 1", Taken), ("add a c 1", Busy),
            ("lose a a", NoFolk), ("lose a z", NoFolk), ("lose a c", NoWay), ("lose a b", Busy), ("heard ho z", NoCry),
            ("heard hey z", NoPlace), ("hears z", NoPlace), ("told ho", NoCry), ("last ho", NoCry),
        ]:
            self.assert_refused(error, desk, row)
        self.assert_says(desk, "back", "ok")
        self.assert_refused(Nothing, desk, "back")

    def test_too_many(self):
        desk = desk_of("web\n" + show_web(big_web()))
        self.assertEqual(self.assert_refused(TooMany, desk, "add aa fj 1").many, 151)
        desk.say("begin hey aa")
        self.assert_refused(TooMany, desk, "add aa fj 1")
        self.assert_refused(Busy, desk, "lose aa ab")


class Whole(Case):
    def test_rows_with_a_sign_changed(self):
        chance = random.Random(1101)
        desk = desk_of(ROW)
        for _ in range(3000):
            row = chance.choice(GOOD)
            at = chance.randint(0, len(row))
            signs = chance.choice(["", " ", "\n", "0", "1", "a", "-", "B", "  "])
            row = row[:at] + signs + row[at + chance.randint(0, 1):]
            try:
                desk.say(row)
                error = None
            except CryError as caught:
                error = caught.__class__
            self.assertEqual(error is NoForm, FORM.fullmatch(row) is None, repr(row))

    def test_as_the_night_tells(self):
        for at, web in enumerate(some_webs(1103, 25, 6, 4) + far_webs(1105, 10)):
            chance = random.Random(at)
            desk, night = desk_of("web\n" + show_web(web)), Night(web)
            for _ in range(40):
                row, name, handed = self.some_row(chance, night)
                self.assertEqual(self.answer(desk.say, row), self.answer(getattr(night, name), *handed), row)
                self.assert_same(desk, night)

    def some_row(self, chance, night):
        """Some row, and the Night's own words for it."""
        folk = night.web_now()[0] + ["zz"]
        one, other, beats = chance.choice(folk), chance.choice(folk), chance.choice([0, 1, 2, 5, END, 10 ** 13])
        cry = "abcdefgh"[:chance.randint(1, 9)]
        starters = some_starters(beats, folk[:-1])
        return chance.choice([
            (f"begin {cry} {' '.join(starters)}", "begin", (cry, starters)), (f"on {beats}", "go_on", (beats,)),
            (f"on {beats}", "go_on", (beats,)), (f"add {one} {other} {beats}", "add", (one, other, beats)),
            (f"lose {one} {other}", "lose", (one, other)), ("back", "back", ()),
        ])

    def answer(self, call, *handed):
        """What is told, or the class by which it is refused; a deed that is done is told as `ok`."""
        try:
            told = call(*handed)
        except CryError as error:
            return error.__class__, vars(error)
        return "ok" if told is None else told

    def assert_same(self, desk, night):
        self.assertEqual(desk.say("now"), str(night.beat_now()))
        self.assertEqual(desk.say("quiet"), " ".join(night.quiet_cries()) or "none")
        for cry in night.cries():
            self.assertEqual(desk.say(f"told {cry}"), str(night.told(cry)))
            self.assertEqual(desk.say(f"last {cry}"), str(night.last_of(cry)))
        for name in night.web_now()[0]:
            self.assertEqual(desk.say(f"hears {name}"), " ".join(night.cries_heard((name, name, 0))) or "none")
            for cry in night.cries():
                beats = [str(beat) for beat in night.heard_at(cry, (name, name, 0))]
                self.assertEqual(desk.say(f"heard {cry} {name}"), " ".join(beats) or "never")

    def test_as_a_web_asked_alone(self):
        for at, web in enumerate(far_webs(1107, 20)):
            starters = some_starters(at, web[0])
            desk = desk_of("web\n" + show_web(web), f"begin hey {' '.join(starters)}", f"on {10 ** 30}")
            self.assertEqual(desk.say("told hey"), str(tellings(web, starters)))
            self.assertEqual(desk.say("last hey"), str(last_beat(web, starters)))
            for name in web[0]:
                beats = [str(beat) for beat in hearings(web, starters, (name, name, 0))]
                self.assertEqual(desk.say(f"heard hey {name}"), " ".join(beats) or "never")
            self.assertEqual(read_web(show_web(web)), web)

    def test_sixty_folk_begin(self):
        desk = desk_of("web\n" + show_web(big_web()), "begin hey " + " ".join(folk_of(60)))
        self.assertEqual(desk.say("last hey"), str(last_beat(big_web(), folk_of(60))))
