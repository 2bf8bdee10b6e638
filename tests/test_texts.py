"""Webs and records as texts, written and read back [2, 3, 4, 30]."""

import random
import re
from unittest.mock import ANY

from elsetold.errors import NoRecord, NoText, NoWeb
from elsetold.texts import read_record, read_web, show_record, show_web
from elsetold.watchers import may_begin
from tests.support import (END, NO_RECORDS, NO_WEBS, ODD_THINGS, AskingCase, big_web, far_webs, folk_of, listed,
                           picture, some_webs, stretched, tupled, unchanged)

TEXT = "folk ann bob cat\nway ann bob 12\nway bob cat 1000000000000"
WEB = (["ann", "bob", "cat"], [("ann", "bob", 12), ("bob", "cat", END)])
RECORD = {"cat": ([], []), "ann": ([3, 14], [(4, 9), (1, 2), (20, 10 ** 39)]), "bob": ([], [(7, 7)])}
RECORD_TEXT = f"ann 3 14 4-9 1-2 20-{10 ** 39}\nbob 7-7\ncat"
NAME, NUMBER = "[a-z]{1,8}", "(?:0|[1-9][0-9]*)"
WEB_FORMS = re.compile(f"folk(?: {NAME})+"), re.compile(f"way {NAME} {NAME} {NUMBER}")
WATCHER_FORM = re.compile(f"{NAME}(?: {NUMBER})*(?: {NUMBER}-{NUMBER})*")


def bad_row(text, forms):
    """The first row that has no form, by forms for the first row and for all others; None where each has."""
    for at, row in enumerate(text.split("\n")):
        if not forms[min(at, 1)].fullmatch(row):
            return at
    return None


def some_record(chance):
    """Some record of some folk."""
    record = {}
    for name in chance.sample(folk_of(60), chance.randint(0, 6)):
        heard = sorted({chance.randint(1, 10 ** chance.randint(1, 40)) for _ in range(chance.randint(0, 4))})
        firsts = [chance.randint(1, 10 ** chance.randint(1, 39)) for _ in range(chance.randint(0, 4))]
        record[name] = (heard, [(first, first + chance.randint(0, first)) for first in firsts])
    return record


class Case(AskingCase):
    def assert_no_text(self, row, call, text):
        with self.assertRaises(NoText) as caught:
            unchanged(self, call, text)
        self.assertIs(caught.exception.__class__, NoText)
        self.assertEqual(picture(caught.exception.row), picture(row), repr(text))

    def assert_read(self, call, show, text, row):
        """It is read back as it was written, or refused by its first row without a form."""
        try:
            told = unchanged(self, call, text)
        except NoText as error:
            self.assertEqual(error.row, row, repr(text))
        else:
            self.assertIsNone(row)
            self.assertEqual(show(told), text)

    def changed(self, chance, text):
        """The text with a sign or two in the place of one, or between two."""
        at = chance.randint(0, len(text))
        signs = chance.choice(["", " ", "\n", "0", "1", "a", "-", "B", "\n\n"])
        return text[:at] + signs + text[at + chance.randint(0, 1):]


class Shown(Case):
    def test_a_web(self):
        self.assert_told(TEXT, show_web, WEB)
        self.assert_told("folk a", show_web, (["a"], []))
        self.assert_told("folk a b", show_web, (["a", "b"], []))
        self.assert_told("folk folk way\nway folk way 1", show_web, (["folk", "way"], [("folk", "way", 1)]))

    def test_a_record(self):
        self.assert_told(RECORD_TEXT, show_record, RECORD)
        self.assert_told("", show_record, {})
        self.assert_told("a", show_record, {"a": ([], [])})
        self.assert_told("a 1 2\nb", show_record, {"b": ([], []), "a": ([1, 2], [])})

    def test_lists_and_tuples_and_names(self):
        for other in [listed, tupled]:
            self.assert_told(TEXT, show_web, other(WEB))
            self.assert_told(RECORD_TEXT, show_record, other(RECORD))
        self.assertEqual(show_web(web=WEB), TEXT)
        self.assertEqual(show_record(record=RECORD), RECORD_TEXT)

    def test_a_dict_filled_in_another_order(self):
        for names in [["ann", "bob", "cat"], ["cat", "bob", "ann"], ["bob", "cat", "ann"]]:
            self.assert_told(RECORD_TEXT, show_record, {name: RECORD[name] for name in names})

    def test_no_web_and_no_record(self):
        for web in NO_WEBS:
            self.assert_refused(NoWeb, show_web, web)
        for thing in ODD_THINGS + NO_RECORDS:
            if thing is ANY or thing != {} or not isinstance(thing, dict):
                self.assert_refused(NoWeb, show_web, thing)
                self.assert_refused(NoRecord, show_record, thing)

    def test_a_record_of_no_folk_that_a_web_can_have(self):
        record = {name: ([1], []) for name in folk_of(60)}
        self.assertEqual(show_record(record), "\n".join([f"{name} 1" for name in folk_of(60)]))
        record["zoe"] = ([], [])
        self.assert_refused(NoRecord, show_record, record)


class Read(Case):
    def test_a_web(self):
        self.assert_told(WEB, read_web, TEXT)
        self.assert_told((["a"], []), read_web, "folk a")
        self.assert_told((["folk", "way"], [("folk", "way", 1)]), read_web, "folk folk way\nway folk way 1")

    def test_a_record(self):
        self.assert_told(RECORD, read_record, RECORD_TEXT)
        self.assert_told({}, read_record, "")
        self.assert_told({"a": ([], [])}, read_record, "a")
        self.assert_told({"a": ([1, 20], [(3, 3), (1, 2)])}, read_record, "a 1 20 3-3 1-2")

    def test_the_kinds(self):
        self.assertEqual(picture(read_web(TEXT)), picture(WEB))
        self.assertEqual(picture(read_record(RECORD_TEXT)), picture({name: RECORD[name] for name in sorted(RECORD)}))
        self.assertEqual(picture(read_web(text=TEXT)), picture(WEB))
        self.assertEqual(read_record(text=RECORD_TEXT), RECORD)

    def test_what_is_read_is_the_askers_own(self):
        folk, ways = read_web(TEXT)
        folk.clear()
        ways.clear()
        self.assertEqual(read_web(TEXT), WEB)
        told = read_record(RECORD_TEXT)
        told["ann"][0].clear()
        told["ann"][1].clear()
        told.clear()
        self.assertEqual(read_record(RECORD_TEXT), RECORD)

    def test_webs_there_and_back(self):
        for web in some_webs(1001, 60, 9, 9) + far_webs(1003, 40) + [big_web(), stretched(big_web(), 333333333333)]:
            text = show_web(web)
            self.assert_told(web, read_web, text)
            self.assertEqual(show_web(read_web(text)), text)
            self.assertEqual(len(text.split("\n")), len(web[1]) + 1)

    def test_records_there_and_back(self):
        chance = random.Random(1005)
        for _ in range(200):
            record = some_record(chance)
            text = show_record(record)
            self.assert_told(record, read_record, text)
            self.assertEqual(show_record(read_record(text)), text)

    def test_what_is_read_may_be_asked(self):
        self.assertEqual(may_begin(read_web("folk a b\nway a b 3"), read_record("a 3\nb")), ["a", "b"])


class NoWebText(Case):
    def test_no_text(self):
        for call in [read_web, read_record]:
            for thing in ODD_THINGS:
                if not isinstance(thing, str):
                    self.assert_no_text(None, call, thing)
            for thing in [ANY, [TEXT], TEXT.encode(), [TEXT.split("\n")]]:
                self.assert_no_text(None, call, thing)

    def test_the_empty_text_and_empty_rows(self):
        self.assert_no_text(0, read_web, "")
        self.assert_no_text(0, read_web, "\n")
        self.assert_no_text(0, read_web, "\n" + TEXT)
        self.assert_no_text(3, read_web, TEXT + "\n")
        self.assert_no_text(3, read_web, TEXT + "\n\n")
        self.assert_no_text(1, read_web, "folk a\n")
        self.assert_no_text(2, read_web, "folk a b c\nway a b 1\n\nway a c 1")

    def test_rows_of_no_form(self):
        for row in ["folk", "folk ", "folk  a", "folk a  b", "folk a ", " folk a", "a b", "Folk a", "folk A", "folk a1",
                    "folk abcdefghi", "folk a,b", "folk a\tb", "folk\ta", "folks a", "way a", "folk a\r", "folk 1",
                    "folk \u00e4", "", " ", "folk a b\u00a0c", "folk a\x0bb", "folk a\x85"]:
            self.assert_no_text(0, read_web, row)
            self.assert_no_text(0, read_web, row + "\nway a b 1")
            self.assert_no_text(1, read_web, "folk a b\n" + row)
        for row in ["way a b", "way a b ", "way a b 01", "way a b 00", "way a b -1", "way a b +1", "way a b 1.0",
                    "way a b 1 ", " way a b 1", "way  a b 1", "way a  b 1", "way a b  1", "way a 1", "way a b c",
                    "way a b 1 2", "Way a b 1", "way a B 1", "way a b 1_0", "way a b \u0661", "way a b 0x1",
                    "way a b 1-2", "folk a b", "a b 1", "way abcdefghi b 1", "way a b\t1", "way a b 1\r", "way",
                    "way a b \u00b2"]:
            self.assert_no_text(1, read_web, "folk a b\n" + row)
            self.assert_no_text(2, read_web, "folk a b\nway a b 3\n" + row)
            self.assert_no_text(1, read_web, "folk a b\n" + row + "\nway a b 01")

    def test_rows_in_the_place_of_others(self):
        self.assert_no_text(0, read_web, "way a b 1")
        self.assert_no_text(0, read_web, "way a b 1\nfolk a b")
        self.assert_no_text(1, read_web, "folk a b\nfolk a b")

    def test_the_first_one_of_several(self):
        self.assert_no_text(0, read_web, "folk\nway\nway")
        self.assert_no_text(1, read_web, "folk a b\nway a b x\nway a b 0\n")
        # Ahead of what is no web for another reason in a row ahead.
        self.assert_no_text(2, read_web, "folk b a\nway a a 0\nway")

    def test_rows_of_good_form_that_are_no_web(self):
        for text in ["folk b a", "folk a a", "folk a b\nway a b 0", "folk a b\nway b a 1", "folk a b\nway a a 1",
                     "folk a b\nway a c 1", f"folk a b\nway a b {END + 1}", f"folk a b\nway a b {10 ** 40 - 1}",
                     "folk a b\nway a b 1\nway a b 1", "folk a b\nway a b 1\nway a b 2", "folk a\nway a b 1",
                     "folk a b c\nway a c 1\nway a b 1", "folk a b c\nway b c 1\nway a c 1", "folk way\nway way way 1"]:
            self.assert_no_text(None, read_web, text)
        self.assert_no_text(None, read_web, " ".join(["folk", *folk_of(60), "zoe"]))
        self.assertEqual(read_web(" ".join(["folk", *folk_of(60)])), (folk_of(60), []))

    def test_a_hundred_and_fifty_ways_and_one_more(self):
        text = show_web(big_web())
        self.assertEqual(read_web(text), big_web())
        self.assert_no_text(None, read_web, text + "\nway fi fj 1")
        self.assert_no_text(151, read_web, text + "\nway fi fj 01")

    def test_texts_with_one_sign_changed(self):
        chance = random.Random(1007)
        for web in some_webs(1009, 40, 5, 12):
            text = show_web(web)
            for _ in range(40):
                other = self.changed(chance, text)
                self.assert_read(read_web, show_web, other, bad_row(other, WEB_FORMS))


class NoRecordText(Case):
    def test_the_empty_text_and_empty_rows(self):
        self.assert_no_text(0, read_record, "\n")
        self.assert_no_text(0, read_record, "\na")
        self.assert_no_text(1, read_record, "a\n")
        self.assert_no_text(1, read_record, "a\n\n")
        self.assert_no_text(1, read_record, "a\n\nb")

    def test_rows_of_no_form(self):
        for row in [" ", "a ", " a", "a  1", "a 1  2", "a 1 ", "A", "a1", "abcdefghi", "1", "1 a", "a b", "a 01",
                    "a 00", "a -1", "a +1", "a 1-", "a -2", "a 1-2 3", "a 1 2-3 4", "a 1-2 3-4 5", "a 1-2-3", "a 1--2",
                    "a 01-2", "a 1-02", "a 1 -2", "a 1- 2", "a 1 - 2", "a -", "a x", "a 1-x", "a 1_0", "a 1.0",
                    "a \u0661", "a\t1", "a 1\r", "a 1,2", "a \u00b2", "a 1\x0b2", "a 00-0", "\u00e4"]:
            self.assert_no_text(0, read_record, row)
            self.assert_no_text(1, read_record, "a 1\n" + row)
            self.assert_no_text(1, read_record, "b 0\n" + row + "\na 01")

    def test_the_first_one_of_several(self):
        self.assert_no_text(1, read_record, "b 2 1\na 1-2 1\nc 00")

    def test_rows_of_good_form_that_are_no_record(self):
        for text in ["a 0", "a 1 1", "a 2 1", "a 0-0", "a 0-3", "a 3-2", "a 1-2 5-4", "b\na", "a\na", "a 1\na 2",
                     "a 1 0", "a\nc\nb", "a 0 1-2", f"a {10 ** 39} 1", "a 1 2 2 3-3", "a 3-2\nb 1"]:
            self.assert_no_text(None, read_record, text)

    def test_sixty_watchers_and_one_more(self):
        self.assertEqual(read_record("\n".join(folk_of(60))), {name: ([], []) for name in folk_of(60)})
        self.assert_no_text(None, read_record, "\n".join([*folk_of(60), "zoe"]))
        self.assert_no_text(61, read_record, "\n".join([*folk_of(60), "zoe", "1"]))

    def test_texts_with_one_sign_changed(self):
        chance = random.Random(1011)
        for _ in range(40):
            text = show_record(some_record(chance))[:60]
            for _ in range(40):
                other = self.changed(chance, text)
                row = bad_row(other, (WATCHER_FORM, WATCHER_FORM)) if other else None
                self.assert_read(read_record, show_record, other, row)
