import random
import unittest
from itertools import product

from lookon.documents import Document
from lookon.errors import BadRecord, InvalidArgument, RefusedError
from lookon.narrowing import narrowed
from lookon.shapes import numbers_of
from lookon.views import EVERYTHING, is_wider, view
from lookon.watching import Watch
from samples import FITTING, FIVE, LATE, NEW, ONE, SCOPES, TWO, WHOLE, chance_document, edit, misfits

CHOICES = list(product(SCOPES, (None, (), ("a",), ("a", "c")), (True, False)))
NO_OPTIONS = (None, True, (), "all", ["all", None, True], ("none", None, True), ("all", [], True),
              ("all", ("b", "a"), True), ("all", ("A",), True), ("all", None, 1), ("all", None))

# What an observer of everything below 0 gets, whose view at the beginning is WHOLE.
NEW_BARE = ("e", 20, "new", (), ())
ROW = [("mark", 0, "a", "2"), ("mark", 2, "b", None), ("text", 1, "new"), ("text", 6, ""), ("put", 2, NEW, 4),
       ("put", 0, ("t", 30, "z"), 7), ("mark", 20, "x", "1"), ("text", 21, "d"), ("out", 2, 3), ("mark", 2, "a", "v"),
       ("out", 0, 1), ("mark", 5, "m", "w"), ("put", 5, ("e", 31, "k", (("a", "1"), ("m", "")), ()), 6)]


class NarrowingCase(unittest.TestCase):
    def refused(self, error, attribute, value, *arguments):
        with self.assertRaises(error, msg=arguments) as caught:
            narrowed(*arguments)
        self.assertIs(type(caught.exception), error)
        self.assertEqual(getattr(caught.exception, attribute), value, arguments)


class NarrowedTest(NarrowingCase):
    def test_the_same(self):
        self.assertEqual(narrowed(WHOLE, EVERYTHING, ROW, 0, EVERYTHING), ROW)

    def test_no_records(self):
        for node, options in product(numbers_of(WHOLE), CHOICES):
            self.assertEqual(narrowed(WHOLE, EVERYTHING, [], node, options), [])

    def test_each_record(self):
        for record, _ in FITTING:
            self.assertEqual(narrowed(WHOLE, EVERYTHING, [record], 0, EVERYTHING), [record])
            if record not in (("out", 0, 2), ("out", 0, 7)):
                self.assertEqual(narrowed(WHOLE, EVERYTHING, [record], 7, ("own", None, True)),
                                 [record] if record[1] == 7 and record[0] == "mark" else [])

    def test_by_scope(self):
        self.assertEqual(narrowed(WHOLE, EVERYTHING, ROW, 0, ("own", None, True)), [ROW[0]])
        self.assertEqual(narrowed(WHOLE, EVERYTHING, ROW, 0, ("list", None, True)), [
            ROW[0], ("put", 0, ("t", 30, ""), 7), ROW[10]])
        self.assertEqual(narrowed(WHOLE, EVERYTHING, ROW, 2, ("own", None, True)), [ROW[1], ROW[9]])
        self.assertEqual(narrowed(WHOLE, EVERYTHING, ROW, 2, ("list", None, True)), [
            ROW[1], ("put", 2, NEW_BARE, 4), ROW[8], ROW[9]])

    def test_by_marks(self):
        self.assertEqual(narrowed(WHOLE, EVERYTHING, ROW, 0, ("all", ("a", "b"), True)), [
            ROW[0], ROW[1], ROW[2], ROW[3], ("put", 2, ("e", 20, "new", (), NEW[4]), 4), ROW[5], ROW[7], ROW[8], ROW[9],
            ROW[10], ("put", 5, ("e", 31, "k", (("a", "1"),), ()), 6)])
        self.assertEqual(narrowed(WHOLE, EVERYTHING, ROW, 5, ("all", ("a",), True)), [
            ROW[3], ("put", 5, ("e", 31, "k", (("a", "1"),), ()), 6)])

    def test_by_texts(self):
        inner = (("t", 21, ""), ("e", 22, "inner", (), ()))
        self.assertEqual(narrowed(WHOLE, EVERYTHING, ROW, 0, ("all", None, False)), [
            ROW[0], ROW[1], ("put", 2, ("e", 20, "new", (("x", ""),), inner), 4), ("put", 0, ("t", 30, ""), 7), ROW[6],
            *ROW[8:]])

    def test_by_all_of_them(self):
        self.assertEqual(narrowed(WHOLE, EVERYTHING, ROW, 0, ("own", ("b",), False)), [])
        self.assertEqual(narrowed(WHOLE, EVERYTHING, ROW, 2, ("list", ("a",), False)), [
            ("put", 2, NEW_BARE, 4), ROW[8], ROW[9]])
        self.assertEqual(narrowed(WHOLE, EVERYTHING, ROW, 2, ("all", (), False)), [
            ("put", 2, ("e", 20, "new", (), (("t", 21, ""), ("e", 22, "inner", (), ()))), 4), ROW[8],
            ("put", 5, ("e", 31, "k", (), ()), 6)])

    def test_by_node(self):
        self.assertEqual(narrowed(WHOLE, EVERYTHING, ROW, 2, EVERYTHING), [
            ROW[1], ROW[3], ROW[4], ROW[6], ROW[7], ROW[8], ROW[9], *ROW[11:]])
        self.assertEqual(narrowed(WHOLE, EVERYTHING, ROW, 5, EVERYTHING), [ROW[3], ROW[11], ROW[12]])
        for scope in SCOPES:
            self.assertEqual(narrowed(WHOLE, EVERYTHING, ROW, 6, (scope, None, True)), [ROW[3]])
            self.assertEqual(narrowed(WHOLE, EVERYTHING, ROW, 6, (scope, None, False)), [])
            self.assertEqual(narrowed(WHOLE, EVERYTHING, ROW, 4, (scope, None, True)), [])

    def test_wide_options_that_are_not_everything(self):
        got = [("mark", 0, "a", "2"), ("put", 0, NEW_BARE, 1), ("out", 0, 20), ("mark", 0, "c", None)]
        first = view(WHOLE, ("list", None, False))
        self.assertEqual(narrowed(first, ("list", None, False), got, 0, ("list", ("c",), False)), got[1:])
        self.assertEqual(narrowed(first, ("list", None, False), got, 0, ("own", ("a",), False)), got[:1])
        first = view(WHOLE, ("own", ("a", "c"), True))
        self.assertEqual(narrowed(first, ("own", ("a", "c"), True), got[::3], 0, ("own", ("c",), False)), got[3:])
        self.assertEqual(narrowed(ONE, ("own", (), True), [("text", 1, "b")], 1, ("own", (), True)), [("text", 1, "b")])
        self.assertEqual(narrowed(ONE, ("own", (), True), [("text", 1, "b")], 1, ("own", (), False)), [])

    def test_what_is_handed_in_stays_and_the_list_is_the_callers(self):
        row, whole = list(ROW), repr(WHOLE)
        for options in CHOICES:
            narrowed(WHOLE, EVERYTHING, row, 0, options).clear()
            narrowed(WHOLE, EVERYTHING, row, 2, options).append(None)
        self.assertEqual(row, ROW)
        self.assertEqual(repr(WHOLE), whole)
        self.assertEqual(narrowed(WHOLE, EVERYTHING, row, 0, EVERYTHING), ROW)


class RefusalTest(NarrowingCase):
    def test_no_options(self):
        for value in NO_OPTIONS:
            self.refused(InvalidArgument, "name", "options", WHOLE, value, [], 0, EVERYTHING)
            self.refused(InvalidArgument, "name", "options", WHOLE, EVERYTHING, [], 0, value)
            self.refused(InvalidArgument, "name", "options", WHOLE, value, [], 0, value)

    def test_options_that_are_wider(self):
        for wide, options in product(CHOICES, CHOICES):
            if is_wider(wide, options):
                self.assertEqual(narrowed(WHOLE, wide, [], 0, options), [])
            else:
                self.refused(InvalidArgument, "name", "options", WHOLE, wide, [], 0, options)
        for wide, options in ((("own", None, True), ("list", None, True)), (("list", None, True), ("all", None, True)),
                              (("all", ("a",), True), ("all", None, True)), (("all", None, False), EVERYTHING),
                              (("all", ("a",), True), ("own", ("b",), False)), (("list", (), True), ("all", (), False)),
                              (("all", ("a", "c"), True), ("all", ("a", "b"), True))):
            self.refused(InvalidArgument, "name", "options", WHOLE, wide, [], 0, options)

    def test_no_node_of_the_view(self):
        for node in (8, 20, -1, None, True, False, "0", 0.0, 1.0, (), (0,), [0], {0}):
            for wide in (EVERYTHING, ("list", None, True), ("own", None, True)):
                self.refused(InvalidArgument, "name", "node", WHOLE, wide, [], node, ("own", (), False))
        # A node that only comes later was not there at the beginning.
        self.refused(InvalidArgument, "name", "node", WHOLE, EVERYTHING, [("put", 0, NEW, None)], 20, EVERYTHING)

    def test_another_node_than_that_of_an_observer_that_does_not_see_all(self):
        first = view(WHOLE, ("list", None, True))
        for node in (1, 2, 7):
            for wide, options in product(("list", "own"), ("list", "own")):
                if wide == "list" or options == "own":
                    self.refused(InvalidArgument, "name", "node", first, (wide, None, True), [], node,
                                 (options, None, True))
        self.assertEqual(narrowed(first, ("list", None, True), [], 0, ("list", None, True)), [])
        self.assertEqual(narrowed(first, ("all", None, True), [], 2, ("list", None, True)), [])

    def test_what_does_not_fit(self):
        for reason, record in misfits():
            with self.subTest(reason=reason, record=record):
                self.refused(BadRecord, "place", 0, WHOLE, EVERYTHING, [record], 0, EVERYTHING)
                self.refused(BadRecord, "place", 1, WHOLE, EVERYTHING, [("mark", 7, "q", "1"), record], 4,
                             ("own", (), False))

    def test_the_place_of_the_first_one(self):
        for place, row in LATE:
            self.refused(BadRecord, "place", place, WHOLE, EVERYTHING, list(row), 0, EVERYTHING)
        self.refused(BadRecord, "place", 1, TWO, ("list", None, True), [("out", 2, 5), ("out", 2, 5)], 2,
                     ("own", None, True))

    def test_the_node_goes_out(self):
        for node, row in ((1, [("out", 0, 1)]), (2, [("out", 0, 2)]), (4, [("out", 2, 4)]), (4, [("out", 0, 2)]),
                          (6, [("out", 5, 6)]), (6, [("out", 2, 5)]), (6, [("out", 0, 2)]),
                          (6, [("mark", 0, "a", "2"), ("out", 0, 1), ("out", 0, 2), ("mark", 0, "b", "2")]),
                          (5, [("out", 2, 5), ("put", 0, FIVE, None)]), (6, [("out", 2, 5), ("put", 2, FIVE, None)])):
            for scope in SCOPES:
                self.refused(RefusedError, "reason", "gone", WHOLE, EVERYTHING, row, node, (scope, None, True))

    def test_what_is_beside_the_node_or_below_it_goes_out(self):
        row = [("out", 5, 6), ("out", 2, 3), ("out", 0, 7)]
        self.assertEqual(narrowed(WHOLE, EVERYTHING, row, 5, EVERYTHING), row[:1])
        self.assertEqual(narrowed(WHOLE, EVERYTHING, row, 4, EVERYTHING), [])
        self.assertEqual(narrowed(WHOLE, EVERYTHING, row, 2, ("list", (), False)), row[1:2])

    def test_whichever_comes_first(self):
        for bad in (None, ("out", 0, 5), ("put", 0, TWO, None), ("text", 0, "")):
            gone = ("out", 0, 2)
            self.refused(BadRecord, "place", 0, WHOLE, EVERYTHING, [bad, gone], 5, EVERYTHING)
            self.refused(BadRecord, "place", 1, WHOLE, EVERYTHING, [("out", 5, 6), bad, gone], 5, EVERYTHING)
            self.refused(RefusedError, "reason", "gone", WHOLE, EVERYTHING, [gone, bad], 5, EVERYTHING)
            self.refused(RefusedError, "reason", "gone", WHOLE, EVERYTHING, [gone, gone], 2, EVERYTHING)
        # An out of a node that is not a child of the target does not fit, even if it is this node.
        self.refused(BadRecord, "place", 0, WHOLE, EVERYTHING, [("out", 0, 5)], 5, EVERYTHING)

    def test_the_order_of_the_refusals(self):
        gone = [("out", 0, 2)]
        for records in ([None], gone):
            self.refused(InvalidArgument, "name", "options", WHOLE, None, records, 99, EVERYTHING)
            self.refused(InvalidArgument, "name", "options", WHOLE, ("own", None, True), records, 2, EVERYTHING)
            self.refused(InvalidArgument, "name", "node", WHOLE, EVERYTHING, records, 99, EVERYTHING)
            self.refused(InvalidArgument, "name", "node", WHOLE, ("list", None, True), records, 2, ("own", None, True))

    def test_a_refused_call_changes_nothing(self):
        row = [("mark", 0, "a", "2"), ("out", 0, 2)]
        for node, records in ((5, row), (0, row + [None])):
            kept = list(records)
            with self.assertRaises((RefusedError, BadRecord)):
                narrowed(WHOLE, EVERYTHING, records, node, EVERYTHING)
            self.assertEqual(records, kept)


class ObserversTest(NarrowingCase):
    """What a narrower observer of the same document takes, that began at the same time, is just what is told."""

    def test_a_document(self):
        document = Document()
        for _ in range(5):
            document.element("a")
        document.insert(0, document.text("x"))
        for parent, child in ((0, 1), (1, 2), (2, 3)):
            document.insert(parent, child)
        document.mark(4, "a", "1")
        document.mark(4, "b", "2")
        watch, seen = Watch(document), []
        for node, options in product((0, 1, 2, 3, 6), CHOICES):
            seen.append((watch.observe(node, options), node, options))
        first = view(document.shape(), EVERYTHING)
        for parent, child in ((3, 4), (0, 5), (5, 4), (1, 4)):
            document.insert(parent, child)
        document.mark(4, "a", "3")
        document.write(6, "y")
        document.insert(2, 6)
        document.write(6, "z")
        records = watch.take(CHOICES.index(EVERYTHING))
        self.assertEqual(len(records), 11)
        for number, node, options in seen:
            if node == 6:
                self.refused(RefusedError, "reason", "gone", first, EVERYTHING, records, node, options)
            elif options != EVERYTHING or node:
                self.assertEqual(narrowed(first, EVERYTHING, records, node, options), watch.take(number))

    def check(self, watch, wide, narrow, got, gone):
        """Compare what all narrower observers got with what is told of them."""
        number, root, options, first = wide
        for other, node, others in narrow:
            below = node in numbers_of(first) if options[0] == "all" else node == root
            arguments = (first, options, got[number], node, others)
            if not is_wider(options, others):
                self.refused(InvalidArgument, "name", "options", *arguments)
            elif not below:
                self.refused(InvalidArgument, "name", "node", *arguments)
            elif (root, node) in gone:
                self.refused(RefusedError, "reason", "gone", *arguments)
            else:
                self.assertEqual(narrowed(*arguments), got[other])

    def test_by_chance(self):
        for seed in range(24):
            chance = random.Random(seed)
            document = chance_document(chance, 9)
            for _ in range(30):
                edit(chance, document)
            watch, seen = Watch(document), []
            for node in range(9):
                for options in chance.sample(CHOICES, 6) + [EVERYTHING]:
                    seen.append((watch.observe(node, options), node, options, view(document.shape(node), options)))
            got, gone = [[] for _ in seen], set()
            for _ in range(4):
                for _ in range(3):
                    start = len(document.changes())
                    edit(chance, document)
                    # What goes out takes all below it along, wherever it is put then.
                    gone |= {(root, node) for record, above in document.changes(start) if record[0] == "out"
                             for root in above for node in numbers_of(document.shape(record[2]))}
                for number, records in watch.pause():
                    got[number].extend(records)
                for wide in chance.sample(seen, 12):
                    self.check(watch, wide, [row[:3] for row in seen], got, gone)


if __name__ == "__main__":
    unittest.main()
