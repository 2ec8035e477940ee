import random
import unittest
from itertools import product

from lookon.documents import Document
from lookon.errors import BadRecord
from lookon.rebuilding import Mirror, rebuild
from lookon.views import EVERYTHING, view
from lookon.watching import Watch
from samples import FITTING, FIVE, LATE, NEW, ONE, SCOPES, SEVEN, SIX, TWO, WHOLE, chance_document, edit, misfits


def below(shape):
    """The numbers of the children of an element."""
    return [child[1] for child in shape[4]]


class RebuildCase(unittest.TestCase):
    def refused(self, place, call, *arguments):
        with self.assertRaises(BadRecord, msg=arguments) as caught:
            call(*arguments)
        self.assertIs(type(caught.exception), BadRecord)
        self.assertEqual(caught.exception.place, place, arguments)


class RebuildTest(RebuildCase):
    def test_no_records(self):
        for whole in (WHOLE, ONE, ("e", 3, "a", (), ())):
            self.assertEqual(rebuild(whole, []), whole)

    def test_each_record(self):
        for record, expected in FITTING:
            self.assertEqual(rebuild(WHOLE, [record]), expected, record)

    def test_at_a_root_that_is_not_the_top(self):
        self.assertEqual(rebuild(ONE, [("text", 1, "a"), ("text", 1, "b")]), ("t", 1, "b"))
        self.assertEqual(rebuild(FIVE, [("mark", 5, "m", None), ("out", 5, 6), ("put", 5, ("t", 0, ""), None)]),
                         ("e", 5, "item", (), (("t", 0, ""),)))

    def test_several_children(self):
        row = [("put", 0, ("t", number, ""), before) for number, before in ((8, 1), (9, None), (10, 7), (11, 8))]
        self.assertEqual(below(rebuild(WHOLE, row)), [11, 8, 1, 2, 10, 7, 9])

    def test_at_a_node_that_was_put_in(self):
        row = [("put", 7, NEW, None), ("mark", 20, "x", None), ("text", 21, "d"), ("put", 22, ("t", 30, "z"), None),
               ("out", 20, 21), ("put", 20, ("e", 31, "b", (), ()), 22), ("mark", 31, "m", "v")]
        self.assertEqual(rebuild(WHOLE, row), ("e", 0, "top", WHOLE[3], (ONE, TWO, ("e", 7, "last", (), (
            ("e", 20, "new", (), (("e", 31, "b", (("m", "v"),), ()), ("e", 22, "inner", (), (("t", 30, "z"),)))),)))))

    def test_ahead_of_a_node_that_was_put_in(self):
        row = [("put", 0, NEW, None), ("put", 0, ("t", 30, ""), 20)]
        self.assertEqual(below(rebuild(WHOLE, row)), [1, 2, 7, 30, 20])

    def test_a_number_that_was_taken_out_comes_back(self):
        self.assertEqual(rebuild(WHOLE, [("out", 0, 2), ("put", 0, TWO, 7)]), WHOLE)
        self.assertEqual(rebuild(WHOLE, [("out", 0, 2), ("put", 7, ("t", 2, "other"), None)]),
                         ("e", 0, "top", WHOLE[3], (ONE, ("e", 7, "last", (), (("t", 2, "other"),)))))
        # All numbers below it are free as well.
        row = [("out", 0, 2), ("put", 0, SIX, 1), ("put", 0, FIVE[:4] + ((),), 6)]
        self.assertEqual(below(rebuild(WHOLE, row)), [5, 6, 1, 7])

    def test_moved_out_of_what_goes(self):
        row = [("out", 2, 5), ("put", 0, FIVE, 1), ("out", 0, 2), ("text", 6, "new")]
        self.assertEqual(rebuild(WHOLE, row), (
            "e", 0, "top", WHOLE[3], (("e", 5, "item", FIVE[3], (("t", 6, "new"),)), ONE, SEVEN)))

    def test_marks_and_texts_that_are_the_same_or_not_there(self):
        row = [("mark", 0, "a", "1"), ("mark", 0, "z", None), ("text", 1, "one"), ("mark", 5, "m", "v"),
               ("mark", 0, "a", "1")]
        self.assertEqual(rebuild(WHOLE, row), WHOLE)

    def test_marks_stay_in_order(self):
        row = [("mark", 7, name, name) for name in ("m", "z", "a", "n", "ab")]
        self.assertEqual(rebuild(WHOLE, row)[4][2][3], tuple((name, name) for name in ("a", "ab", "m", "n", "z")))

    def test_what_does_not_fit(self):
        for reason, record in misfits():
            with self.subTest(reason=reason, record=record):
                self.refused(0, rebuild, WHOLE, [record])
                self.refused(2, rebuild, WHOLE, [("mark", 7, "q", "1"), ("mark", 7, "q", None), record, None])

    def test_what_does_not_fit_a_text(self):
        for record in (("put", 1, NEW, None), ("out", 1, 1), ("mark", 1, "a", None), ("text", 0, "")):
            self.refused(0, rebuild, ONE, [record])

    def test_the_place_of_the_first_one(self):
        for place, row in LATE:
            self.refused(place, rebuild, WHOLE, list(row))

    def test_what_is_handed_in_stays(self):
        row = [record for record, _ in FITTING if record[0] in ("mark", "text")] + [("put", 0, NEW, 1), ("out", 0, 2)]
        kept, whole = list(row), repr(WHOLE)
        rebuild(WHOLE, row)
        self.refused(len(row), rebuild, WHOLE, row + [None])
        self.assertEqual(row, kept)
        self.assertEqual(repr(WHOLE), whole)
        self.assertEqual(NEW, ("e", 20, "new", (("x", ""),), (("t", 21, "deep"), ("e", 22, "inner", (), ()))))


class MirrorTest(RebuildCase):
    def test_at_first(self):
        for first in (WHOLE, ONE):
            self.assertEqual(Mirror(first).view(), first)

    def test_each_record(self):
        for record, expected in FITTING:
            mirror = Mirror(WHOLE)
            mirror.apply([record])
            self.assertEqual(mirror.view(), expected, record)

    def test_row_behind_row(self):
        mirror = Mirror(WHOLE)
        mirror.apply([])
        self.assertEqual(mirror.view(), WHOLE)
        mirror.apply([("out", 0, 2), ("put", 7, NEW, None)])
        mirror.apply([("mark", 20, "x", None)])
        mirror.apply([("put", 0, TWO, 1), ("out", 0, 1)])
        new = ("e", 20, "new", (), NEW[4])
        self.assertEqual(mirror.view(), ("e", 0, "top", WHOLE[3], (TWO, ("e", 7, "last", (), (new,)))))

    def test_what_does_not_fit(self):
        for reason, record in misfits():
            with self.subTest(reason=reason, record=record):
                mirror = Mirror(WHOLE)
                self.refused(1, mirror.apply, [("out", 2, 4), record])
                self.assertEqual(mirror.view(), WHOLE)

    def test_the_place_is_that_in_the_row(self):
        mirror = Mirror(WHOLE)
        mirror.apply([("mark", 0, "a", "2"), ("mark", 0, "a", "1")])
        for place, row in LATE:
            self.refused(place, mirror.apply, list(row))
            self.assertEqual(mirror.view(), WHOLE)

    def test_it_goes_on_behind_a_row_that_is_refused(self):
        mirror = Mirror(WHOLE)
        mirror.apply([("out", 0, 2)])
        self.refused(2, mirror.apply, [("put", 0, NEW, None), ("out", 0, 1), ("out", 0, 2)])
        self.refused(0, mirror.apply, [("text", 6, "")])
        mirror.apply([("put", 0, NEW, 1)])
        self.assertEqual(mirror.view(), ("e", 0, "top", WHOLE[3], (NEW, ONE, SEVEN)))

    def test_mirrors_are_apart(self):
        one, other = Mirror(WHOLE), Mirror(WHOLE)
        one.apply([("out", 0, 2)])
        self.assertEqual(other.view(), WHOLE)

    def test_the_list_stays_and_changing_it_later_changes_nothing(self):
        row = [("out", 0, 2), ("mark", 7, "m", "v")]
        mirror = Mirror(WHOLE)
        mirror.apply(row)
        self.assertEqual(row, [("out", 0, 2), ("mark", 7, "m", "v")])
        seen = mirror.view()
        row.append(("out", 0, 7))
        row.clear()
        self.assertEqual(mirror.view(), seen)


class RightTest(unittest.TestCase):
    """At each pause an observer's view at its beginning behind all its records is its view as it is (point 31)."""

    def setUp(self):
        self.document = Document()
        for _ in range(4):
            self.document.element("a")
        for number in (5, 6):
            self.assertEqual(self.document.text("x"), number)
        for parent, child in ((0, 1), (0, 2), (1, 3), (3, 5), (2, 4), (2, 6)):
            self.document.insert(parent, child)
        self.watch, self.first, self.mirrors, self.got = Watch(self.document), [], [], []
        for node, options in product(range(7), product(SCOPES, (None, (), ("m",)), (True, False))):
            self.watch.observe(node, options)
            self.first.append(view(self.document.shape(node), options))
            self.mirrors.append(Mirror(self.first[-1]))
            self.got.append([])

    def pause(self):
        for number, records in self.watch.pause():
            self.mirrors[number].apply(records)
            self.got[number].extend(records)
        for number, mirror in enumerate(self.mirrors):
            self.assertEqual(mirror.view(), self.watch.view(number))
            self.assertEqual(rebuild(self.first[number], self.got[number]), self.watch.view(number))

    def test_nothing_happens(self):
        self.pause()
        self.assertFalse(any(self.got))

    def test_a_node_goes_out_of_the_tree_and_comes_back(self):
        self.document.remove(3)
        self.document.write(5, "new")
        self.document.mark(3, "m", "v")
        self.document.mark(3, "n", "v")
        self.pause()
        self.document.insert(3, 6, 5)
        self.document.insert(2, 3)
        self.document.unmark(3, "n")
        self.pause()
        self.document.remove(3)
        self.document.insert(1, 3)
        self.document.write(5, "")
        self.pause()

    def test_a_node_is_moved(self):
        self.document.insert(2, 3, 6)
        self.document.mark(3, "m", "v")
        self.pause()
        self.document.insert(2, 3, 4)
        self.document.insert(4, 5)
        self.document.write(5, "new")
        self.pause()
        self.document.insert(0, 5, 2)
        self.document.insert(1, 2)
        self.pause()

    def test_by_chance(self):
        for seed in range(20):
            chance = random.Random(seed)
            document, known = chance_document(chance, 12), []
            for _ in range(10):
                edit(chance, document)
            watch = Watch(document)
            for node in range(12):
                for scope in SCOPES:
                    options = (scope, chance.choice((None, (), ("a",), ("a", "c"))), chance.random() < 0.5)
                    known.append(view(document.shape(node), options))
                    watch.observe(node, options)
            for _ in range(12):
                for _ in range(chance.randrange(8)):
                    edit(chance, document)
                for number, records in watch.pause():
                    known[number] = rebuild(known[number], records)
                self.assertEqual([watch.view(number) for number in range(len(known))], known)

    def test_everything(self):
        first = view(self.document.shape(), EVERYTHING)
        start = len(self.document.changes())
        self.document.insert(1, 2, 3)
        self.document.insert(3, 6)
        self.document.mark(2, "k", "v")
        records = [record for record, above in self.document.changes(start) if 0 in above]
        self.assertEqual(len(records), 5)
        self.assertEqual(rebuild(first, records), self.document.shape())


if __name__ == "__main__":
    unittest.main()
