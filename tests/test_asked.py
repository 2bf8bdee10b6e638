"""What holds of each function of the last two stages: refusals, and what is handed in and told [2, 3, 19 to 27, 30]."""

import copy
from itertools import product

from elsetold import choosing, errors, texts, underway, watchers, ways
from tests.support import END, FOLK, WEB, AskingCase, listed, picture, spoil, tupled, unchanged

FAR = (FOLK, [*WEB[1][:3], ("cat", "dan", END)])
# ann must have begun; cat has not but with bob, who saves his own stretch, and with dan, who saves his.
RECORD = {"dan": ([], [(1, 9), (4, END)]), "bob": ([1], [(2, 99)])}
TORN = {"bob": ([1, 3], [(5, 6)]), "dan": ([END + 1], [])}
ANN, BOB, CAT, DAN, _ = [(name, name, 0) for name in FOLK]
PAPER = ([("ann", "bob", 3)], ("bob", 1))
TEXT = "folk ann bob\nway ann bob 3"
ERRORS = {"web": errors.NoWeb, "record": errors.NoRecord, "starters": errors.NoStarters, "one": errors.NoFolk,
          "other": errors.NoFolk, "place": errors.NoPlace, "beats": errors.NoBeat, "said": errors.NoTellings,
          "text": errors.NoText}
WRONG = {"web": (FOLK, WEB[1] * 2), "record": {"ann": ([0], [])}, "starters": ["ann", "ann"], "one": "fay",
         "other": "gus", "place": ("cat", "dan", END), "beats": 0, "said": [(ANN, ANN)], "text": "folk ann \n"}
# Each function with good things by the names of its arguments, and what it tells of them.
ASKED = [
    (watchers.may_begin, {"web": FAR, "record": RECORD}, FOLK),
    (watchers.lots_counted, {"web": FAR, "record": RECORD}, 10),
    (watchers.least_lot, {"web": FAR, "record": RECORD}, ["ann"]),
    (watchers.torn, {"web": FAR, "record": RECORD}, None),
    (watchers.is_torn, {"web": FAR, "record": TORN, "thing": PAPER}, True),
    (ways.with_way, {"web": FAR, "one": "eve", "other": "bob", "beats": 7},
     (FOLK, sorted([*FAR[1], ("bob", "eve", 7)]))),
    (ways.without_way, {"web": FAR, "one": "cat", "other": "ann"}, (FOLK, [FAR[1][0], *FAR[1][2:]])),
    (ways.needless, {"web": FAR, "starters": ["eve", "ann"]}, [("ann", "cat", 3), ("bob", "cat", 2)]),
    (ways.in_all_odd_rounds, {"web": (FOLK, [("ann", "bob", 1), ("ann", "cat", 3), ("bob", "cat", 1)])},
     [("ann", "bob", 1), ("ann", "cat", 3), ("bob", "cat", 1)]),
    (choosing.soonest, {"web": FAR}, (0, ["eve"])),
    (choosing.latest, {"web": FAR}, (END + 3, ["ann", "dan"])),
    (choosing.alone_by, {"web": FAR, "place": CAT, "beats": [3]}, ["ann"]),
    (choosing.best_two, {"web": FAR}, (END, "cat", "eve")),
    (underway.next_tellings, {"web": WEB, "said": [(ANN, BOB), (DAN, CAT)]},
     [(BOB, ("bob", "cat", 1)), (CAT, ("ann", "cat", 2)), (CAT, ("bob", "cat", 1))]),
    (underway.round_of, {"web": WEB, "said": [(DAN, CAT)]}, (4, 1)),
    (texts.show_web, {"web": FAR}, "folk ann bob cat dan eve\nway ann bob 1\nway ann cat 3\nway bob cat 2\n"
     "way cat dan 1000000000000"),
    (texts.show_record, {"record": RECORD}, "bob 1 2-99\ndan 1-9 4-1000000000000"),
    (texts.read_web, {"text": TEXT}, (["ann", "bob"], [("ann", "bob", 3)])),
    (texts.read_record, {"text": "ann 3 4-5\nbob"}, {"ann": ([3], [(4, 5)]), "bob": ([], [])}),
]


class Each(AskingCase):
    def test_what_is_told(self):
        for call, good, told in ASKED:
            with self.subTest(call.__name__):
                self.assertEqual(picture(unchanged(self, call, *copy.deepcopy(list(good.values())))), picture(told))

    def test_by_names_in_any_order(self):
        for call, good, told in ASKED:
            self.assertEqual(picture(call(**good)), picture(told))
            self.assertEqual(picture(call(**{name: good[name] for name in reversed(good)})), picture(told))

    def test_lists_and_tuples_stand_for_one_another(self):
        for call, good, told in ASKED:
            for other in [listed, tupled]:
                handed = [other(thing) for thing in good.values()]
                self.assertEqual(picture(unchanged(self, call, *handed)), picture(told))

    def test_refusals_in_the_order_of_the_interface(self):
        for call, good, _ in ASKED:
            names = [name for name in good if name != "thing"]
            for lot in product([False, True], repeat=len(names)):
                wrong = [name for name, bad in zip(names, lot) if bad]
                if wrong:
                    handed = [WRONG[name] if name in wrong else thing for name, thing in good.items()]
                    self.assert_refused(ERRORS[wrong[0]], call, *handed)

    def test_what_is_refused_changes_nothing(self):
        for call, good, told in ASKED:
            for name in good:
                if name != "thing":
                    self.assert_refused(ERRORS[name], call, *{**good, name: WRONG[name]}.values())
            self.assertEqual(picture(call(**good)), picture(told))

    def test_what_is_told_is_the_askers_own(self):
        for call, good, told in ASKED:
            handed = copy.deepcopy(list(good.values()))
            before = picture(handed)
            first, second = call(*handed), call(*handed)
            spoil(first)
            self.assertEqual(picture(handed), before)
            self.assertEqual(picture(second), picture(told))
            self.assertEqual(picture(call(*handed)), picture(told))

    def test_what_is_told_is_not_changed_through_what_was_handed_in(self):
        for call, good, told in ASKED:
            handed = [listed(thing) for thing in good.values()]
            first = call(*handed)
            for thing in handed:
                spoil(thing)
            self.assertEqual(picture(first), picture(told))

    def test_what_was_handed_in_is_changed_where_it_stands_and_asked_anew(self):
        for call, good, told in ASKED:
            if "web" in good:
                web = listed(good["web"])
                others = [copy.deepcopy(thing) for name, thing in good.items() if name != "web"]
                self.assertEqual(picture(call(web, *others)), picture(told))
                web[1][2][2] += 3
                web[0].append("zoe")
                self.assertEqual(picture(call(web, *others)), picture(call(copy.deepcopy(web), *others)))
                web[1][2][2] -= 3
                web[0].pop()
                self.assertEqual(picture(call(web, *others)), picture(told))

    def test_a_record_changed_where_it_stands(self):
        record = {"ann": [[], []]}
        self.assertEqual(watchers.may_begin(FAR, record), FOLK)
        record["ann"][0].append(1)
        self.assertEqual(watchers.may_begin(FAR, record), FOLK)
        self.assertEqual(watchers.least_lot(FAR, record), ["bob"])
        record["ann"][1].append([1, 1])
        self.assertIsNone(watchers.may_begin(FAR, record))
        record["ann"][1].clear()
        record["ann"][0].clear()
        self.assertEqual(watchers.may_begin(FAR, record), FOLK)
