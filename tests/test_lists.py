import random
import unittest

from lookon.errors import BadRecord
from lookon.lists import LiveList
from lookon.matching import answer
from lookon.needs import may_touch
from lookon.rebuilding import rebuild
from samples import FITTING, LATE, WHOLE, chance_record, chance_shape, chance_test, misfits

ITEM = ("name", "item")
MARKED = ("mark", "m")


class LiveListTest(unittest.TestCase):
    """The view is WHOLE: top 0 [1 "one", list 2 [3 "three", item 4, item 5 {m} [6 "six"]], last 7]."""

    def refused(self, live, place, records):
        before = (live.answer(), live.view(), live.asked())
        with self.assertRaises(BadRecord, msg=records) as caught:
            live.apply(records)
        self.assertIs(type(caught.exception), BadRecord)
        self.assertEqual(caught.exception.place, place, records)
        self.assertEqual((live.answer(), live.view(), live.asked()), before)

    def test_at_the_beginning(self):
        live = LiveList(ITEM, WHOLE)
        self.assertEqual((live.answer(), live.view(), live.asked()), ([4, 5], WHOLE, 1))
        live = LiveList(("name", "no"), WHOLE)
        self.assertEqual((live.answer(), live.view(), live.asked()), ([], WHOLE, 1))

    def test_no_records(self):
        live = LiveList(ITEM, WHOLE)
        self.assertEqual(live.apply([]), ([], []))
        self.assertEqual((live.answer(), live.view(), live.asked()), ([4, 5], WHOLE, 1))

    def test_no_record_that_may_touch(self):
        live = LiveList(ITEM, WHOLE)
        row = [("mark", 4, "m", "1"), ("text", 6, "s"), ("put", 4, ("t", 20, "x"), None), ("out", 0, 1)]
        for record in row:
            self.assertEqual(live.apply([record]), ([], []))
        self.assertEqual((live.answer(), live.view(), live.asked()), ([4, 5], rebuild(WHOLE, row), 1))
        live = LiveList(ITEM, WHOLE)
        self.assertEqual(live.apply(row), ([], []))
        self.assertEqual((live.answer(), live.view(), live.asked()), ([4, 5], rebuild(WHOLE, row), 1))

    def test_one_look_for_a_row(self):
        first, last = ("mark", 4, "m", "1"), ("mark", 5, "m", None)
        others = [("mark", 0, "k", "1"), ("text", 1, "x"), ("out", 0, 1)]
        for row in ([first], [first, last], others + [first], [first] + others, others + [last] + others[:2] + [first, last]):
            row = [record for place, record in enumerate(row) if record not in row[:place]]
            live = LiveList(MARKED, WHOLE)
            live.apply(row)
            self.assertEqual((live.answer(), live.asked()), (answer(rebuild(WHOLE, row), MARKED), 2), row)

    def test_row_behind_row(self):
        live = LiveList(MARKED, WHOLE)
        self.assertEqual(live.apply([("mark", 7, "m", "1"), ("mark", 0, "m", "1")]), ([], [0, 7]))
        self.assertEqual(live.asked(), 2)
        self.assertEqual(live.apply([("mark", 7, "k", "1")]), ([], []))
        self.assertEqual(live.asked(), 2)
        self.assertEqual(live.apply([("mark", 5, "m", None), ("mark", 4, "m", "1")]), ([5], [4]))
        self.assertEqual(live.asked(), 3)
        self.assertEqual(live.apply([("out", 0, 2), ("out", 0, 7)]), ([4, 7], []))
        self.assertEqual((live.answer(), live.asked()), ([0], 4))

    def test_a_record_may_touch_and_change_nothing(self):
        live = LiveList(MARKED, WHOLE)
        self.assertEqual(live.apply([("mark", 5, "m", "w")]), ([], []))
        self.assertEqual((live.answer(), live.asked()), ([5], 2))
        self.assertEqual(live.apply([("mark", 4, "m", "1"), ("mark", 4, "m", None)]), ([], []))
        self.assertEqual((live.answer(), live.asked()), ([5], 3))

    def test_a_record_is_looked_at_in_the_view_ahead_of_it(self):
        # What goes out is an element in the first row and a text in the second one, both put in under the same number.
        live = LiveList(("name", "new"), WHOLE)
        live.apply([("put", 7, ("t", 20, ""), None), ("out", 7, 20)])
        self.assertEqual(live.asked(), 1)
        live.apply([("out", 0, 1), ("put", 7, ("t", 1, ""), None), ("out", 7, 1), ("put", 7, ("e", 1, "new", (), ()), None)])
        self.assertEqual((live.answer(), live.asked()), ([1], 2))

    def test_went_and_came_in_their_orders(self):
        row = tuple(("e", number, "a", (("m", ""),) if number in (9, 5, 7, 1) else (), ()) for number in (9, 2, 5, 8, 7, 4, 1))
        live = LiveList(MARKED, ("e", 0, "top", (), row))
        self.assertEqual(live.answer(), [9, 5, 7, 1])
        went, came = live.apply([("mark", 4, "m", ""), ("mark", 1, "m", None), ("out", 0, 9), ("mark", 8, "m", ""),
                                 ("out", 0, 5), ("put", 0, ("e", 3, "a", (("m", ""),), ()), 8), ("mark", 2, "m", "")])
        self.assertEqual((went, came), ([9, 5, 1], [2, 3, 8, 4]))
        self.assertEqual(live.answer(), [2, 3, 8, 7, 4])

    def test_what_is_only_moved_neither_goes_nor_comes(self):
        live = LiveList(ITEM, WHOLE)
        five = ("e", 5, "item", (), ())
        self.assertEqual(live.apply([("out", 2, 5), ("put", 0, five, 1)]), ([], []))
        self.assertEqual((live.answer(), live.asked()), ([5, 4], 2))

    def test_what_went_and_came_is_a_tuple_of_two_lists(self):
        for row in ([], [("mark", 4, "m", "1")], [("mark", 4, "k", "1")]):
            told = LiveList(MARKED, WHOLE).apply(row)
            self.assertEqual([type(told), *map(type, told)], [tuple, list, list])

    def test_a_test_that_looks_forward(self):
        live = LiveList(("has", ("both", (("last",), ("empty",)))), WHOLE)
        self.assertEqual(live.answer(), [0])
        self.assertEqual(live.apply([("out", 5, 6)]), ([], [2]))
        self.assertEqual(live.apply([("put", 7, ("t", 20, ""), None), ("put", 5, ("t", 21, ""), None)]), ([0, 2], []))

    def test_what_does_not_fit(self):
        live = LiveList(ITEM, WHOLE)
        for reason, record in misfits():
            with self.subTest(reason=reason, record=record):
                self.refused(live, 0, [record])
                self.refused(live, 1, [("out", 2, 4), record, ("out", 2, 5)])
                self.refused(live, 2, [("out", 2, 4), ("mark", 7, "q", "1"), record])
        for place, row in LATE:
            self.refused(live, place, list(row))
        self.assertEqual(live.apply([("out", 2, 4)]), ([4], []))
        self.refused(live, 1, [("out", 2, 5), ("out", 2, 4)])
        self.assertEqual((live.answer(), live.asked()), ([5], 2))

    def test_each_record(self):
        for record, expected in FITTING:
            for test in (ITEM, MARKED, ("text", "new"), ("empty",), ("behind", ("any",)), ("not", ("value", "a", "1"))):
                live, old, new = LiveList(test, WHOLE), answer(WHOLE, test), answer(expected, test)
                self.assertEqual(live.apply([record]), ([number for number in old if number not in new],
                                                        [number for number in new if number not in old]))
                self.assertEqual((live.answer(), live.view()), (new, expected))
                self.assertEqual(live.asked(), 2 if may_touch(test, WHOLE, record) else 1)

    def test_lists_may_be_spoilt(self):
        live = LiveList(ITEM, WHOLE)
        live.answer().clear()
        self.assertEqual(live.answer(), [4, 5])
        row = [("out", 2, 4), ("put", 0, ("e", 20, "item", (), ()), None)]
        went, came = live.apply(row)
        self.assertEqual(row, [("out", 2, 4), ("put", 0, ("e", 20, "item", (), ()), None)])
        row.clear()
        went.append(5)
        came.clear()
        live.answer().append(7)
        self.assertEqual(live.answer(), [5, 20])
        self.assertEqual(live.apply([("out", 0, 20)]), ([20], []))

    def test_live_lists_are_apart(self):
        one, other = LiveList(ITEM, WHOLE), LiveList(ITEM, WHOLE)
        one.apply([("out", 0, 2)])
        self.assertEqual((one.answer(), other.answer(), other.asked(), other.view()), ([], [4, 5], 1, WHOLE))

    def test_by_chance(self):
        chance = random.Random(19)
        for _ in range(150):
            test, whole = chance_test(chance, chance.randint(1, 4)), chance_shape(chance, chance.randint(2, 9))
            live, looks = LiveList(test, whole), 1
            for _ in range(8):
                row, old, touched = [], answer(whole, test), False
                for _ in range(chance.randrange(4)):
                    row.append(chance_record(chance, whole))
                    touched |= may_touch(test, whole, row[-1])
                    whole = rebuild(whole, row[-1:])
                new, looks = answer(whole, test), looks + touched
                self.assertEqual(live.apply(row), ([number for number in old if number not in new],
                                                   [number for number in new if number not in old]))
                self.assertEqual((live.answer(), live.view(), live.asked()), (new, whole, looks))


if __name__ == "__main__":
    unittest.main()
