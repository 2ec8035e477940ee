import random
import unittest

from lookon.errors import BadRecord
from lookon.rebuilding import rebuild
from lookon.reversing import undone
from lookon.shapes import children_of, parts_of
from lookon.views import EVERYTHING, view
from lookon.watching import Watch
from samples import FITTING, FIVE, FOUR, LATE, NEW, ONE, SEVEN, SIX, THREE, TWO, WHOLE, chance_document, edit, misfits


class UndoneTest(unittest.TestCase):
    def refused(self, place, *arguments):
        with self.assertRaises(BadRecord, msg=arguments) as caught:
            undone(*arguments)
        self.assertIs(type(caught.exception), BadRecord)
        self.assertEqual(caught.exception.place, place, arguments)

    def check(self, first, records):
        """The records lead back over the views between, and taken back themselves they are the first ones."""
        back = undone(first, records)
        self.assertEqual(len(back), len(records))
        last = rebuild(first, records)
        for many in range(len(records) + 1):
            self.assertEqual(rebuild(last, back[:many]), rebuild(first, records[:len(records) - many]))
        self.assertEqual(undone(last, back), records)

    def test_no_records(self):
        for first in (WHOLE, ONE):
            self.assertEqual(undone(first, []), [])

    def test_a_put(self):
        for before in (None, 1, 2, 7):
            self.assertEqual(undone(WHOLE, [("put", 0, NEW, before)]), [("out", 0, 20)])
        self.assertEqual(undone(WHOLE, [("put", 5, ("t", 8, ""), 6)]), [("out", 5, 8)])

    def test_an_out(self):
        for record, expected in ((("out", 0, 1), ("put", 0, ONE, 2)), (("out", 0, 2), ("put", 0, TWO, 7)),
                                 (("out", 0, 7), ("put", 0, SEVEN, None)), (("out", 2, 3), ("put", 2, THREE, 4)),
                                 (("out", 2, 4), ("put", 2, FOUR, 5)), (("out", 2, 5), ("put", 2, FIVE, None)),
                                 (("out", 5, 6), ("put", 5, SIX, None))):
            self.assertEqual(undone(WHOLE, [record]), [expected])

    def test_a_mark(self):
        for record, expected in ((("mark", 0, "a", "2"), ("mark", 0, "a", "1")),
                                 (("mark", 0, "a", None), ("mark", 0, "a", "1")),
                                 (("mark", 0, "a", "1"), ("mark", 0, "a", "1")),
                                 (("mark", 0, "b", "2"), ("mark", 0, "b", None)),
                                 (("mark", 0, "b", None), ("mark", 0, "b", None)),
                                 (("mark", 5, "m", ""), ("mark", 5, "m", "v"))):
            self.assertEqual(undone(WHOLE, [record]), [expected])
        self.assertEqual(undone(WHOLE, [("mark", 7, "a", ""), ("mark", 7, "a", "1")]),
                         [("mark", 7, "a", ""), ("mark", 7, "a", None)])

    def test_a_text(self):
        self.assertEqual(undone(WHOLE, [("text", 1, "new")]), [("text", 1, "one")])
        self.assertEqual(undone(WHOLE, [("text", 6, "six")]), [("text", 6, "six")])
        self.assertEqual(undone(ONE, [("text", 1, ""), ("text", 1, "b")]), [("text", 1, ""), ("text", 1, "one")])

    def test_several_in_a_row(self):
        row = [("mark", 5, "m", "w"), ("text", 6, "new"), ("out", 2, 5), ("put", 2, NEW, 3), ("out", 20, 21),
               ("mark", 20, "y", "1"), ("out", 2, 20), ("out", 0, 2), ("put", 7, FOUR, None)]
        new_five = ("e", 5, "item", (("m", "w"),), (("t", 6, "new"),))
        inner = ("e", 22, "inner", (), ())
        self.assertEqual(undone(WHOLE, row), [
            ("out", 7, 4), ("put", 0, ("e", 2, "list", TWO[3], (THREE, FOUR)), 7),
            ("put", 2, ("e", 20, "new", (("x", ""), ("y", "1")), (inner,)), 3), ("mark", 20, "y", None),
            ("put", 20, ("t", 21, "deep"), 22), ("out", 2, 20), ("put", 2, new_five, None), ("text", 6, "six"),
            ("mark", 5, "m", "v")])
        self.check(WHOLE, row)

    def test_a_node_that_is_moved(self):
        row = [("out", 2, 5), ("put", 0, FIVE, 1), ("out", 0, 5), ("put", 2, FIVE, 4)]
        back = [("out", 2, 5), ("put", 0, FIVE, 1), ("out", 0, 5), ("put", 2, FIVE, None)]
        self.assertEqual(undone(WHOLE, row), back)
        self.check(WHOLE, row)

    def test_it_leads_back(self):
        for record, _ in FITTING:
            self.check(WHOLE, [record])
        # Each row as far as it fits.
        for place, row in LATE:
            self.check(WHOLE, list(row[:place]))

    def test_what_does_not_fit(self):
        for reason, record in misfits():
            with self.subTest(reason=reason, record=record):
                self.refused(0, WHOLE, [record])
                self.refused(2, WHOLE, [("out", 2, 4), ("put", 2, FOUR, 5), record, None])

    def test_the_place_of_the_first_one(self):
        for place, row in LATE:
            self.refused(place, WHOLE, list(row))

    def test_what_is_handed_in_stays_and_the_list_is_the_callers(self):
        row = [("out", 0, 1), ("mark", 7, "m", "v")]
        kept, whole = list(row), repr(WHOLE)
        undone(WHOLE, row).clear()
        self.refused(2, WHOLE, row + [None])
        self.assertEqual(row, kept)
        self.assertEqual(repr(WHOLE), whole)
        none = []
        undone(WHOLE, none).append(None)
        self.assertEqual(none, [])

    def chance_record(self, chance, whole):
        """Any record that fits a view."""
        target = chance.choice(parts_of(whole))
        if target[0] == "t":
            return ("text", target[1], chance.choice(("", "1", "2")))
        children = [child[1] for child in children_of(target)]
        number = 1 + max(part[1] for part in parts_of(whole))
        child = chance.choice((("t", number, "x"), ("e", number, "n", (("a", "1"),), (("t", number + 1, "y"),))))
        records = [("mark", target[1], chance.choice("abc"), chance.choice((None, "", "1"))),
                   ("put", target[1], child, chance.choice(children + [None]))]
        if children:
            records.append(("out", target[1], chance.choice(children)))
        return chance.choice(records)

    def test_rows_by_chance(self):
        for seed in range(40):
            chance, row, whole = random.Random(seed), [], WHOLE
            for _ in range(20):
                row.append(self.chance_record(chance, whole))
                whole = rebuild(whole, row[-1:])
            self.check(WHOLE, row)

    def test_observers_by_chance(self):
        for seed in range(10):
            chance = random.Random(seed)
            document = chance_document(chance, 12)
            watch, seen = Watch(document), []
            for _ in range(20):
                edit(chance, document)
            for node in range(12):
                for options in (EVERYTHING, ("list", ("a",), False), ("all", ("b",), False)):
                    seen.append((watch.observe(node, options), view(document.shape(node), options)))
            for _ in range(30):
                edit(chance, document)
            for number, first in seen:
                self.check(first, watch.take(number))


if __name__ == "__main__":
    unittest.main()
