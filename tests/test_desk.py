import random
import unittest
from itertools import product

from lookon.desk import Desk
from lookon.documents import Document
from lookon.errors import InvalidArgument, NoSuchNode, NoSuchObserver, RefusedError
from lookon.matching import answer
from lookon.needs import options_of
from lookon.rebuilding import rebuild
from lookon.views import EVERYTHING, view
from lookon.watching import Watch
from samples import SCOPES, chance_document, chance_test, edit

ITEM = ("name", "item")
MARKED = ("has", ("mark", "m"))
NO_TESTS = (None, "", "any", (), ("all",), ["any"], ("name", "A"), ("name",), ("both", [("any",), ("any",)]), {}, ("not", []),
            ("both", (("any",),)), True, 0, EVERYTHING, ([],), ("text", "%"))
NO_OPTIONS = (None, "", (), "all", ["all", None, True], ("none", None, True), ("all", [], True), ("all", ("b", "a"), True),
              ("all", ("A",), True), ("all", None, 1), ("all", None), ("any",))
# What the documents by chance have, and some that they have not.
LEAVES = (("any",), ("name", "a"), ("name", "b"), ("mark", "a"), ("mark", "b"), ("value", "a", "1"), ("value", "c", ""),
          ("text", "1"), ("text", ""), ("first",), ("last",), ("empty",))
NO_NUMBERS = (-1, 99, True, False, None, "0", 0.0, (0,), [0], {0})


def small_document():
    """0 [1 list [2 item, 3 item, 4 "x"], 5 list], and without a parent 6 item, 7 "y"."""
    document = Document()
    for name in ("list", "item", "item", None, "list", "item", None):
        document.element(name) if name else document.text("y" if document.nodes() == 7 else "x")
    for parent, child in ((0, 1), (1, 2), (1, 3), (1, 4), (0, 5)):
        document.insert(parent, child)
    return document


class DeskCase(unittest.TestCase):
    def setUp(self):
        self.document = small_document()
        self.desk = Desk(self.document)

    def refused(self, error, attribute, value, call, *arguments):
        with self.assertRaises(error, msg=arguments) as caught:
            call(*arguments)
        self.assertIs(type(caught.exception), error)
        self.assertEqual(getattr(caught.exception, attribute), value, arguments)


class DeskTest(DeskCase):
    def test_the_example(self):
        document = Document()
        self.assertEqual(document.element("list"), 1)
        document.insert(0, 1)
        desk = Desk(document)
        self.assertEqual(desk.look(0, ("all", (), False)), 0)
        self.assertEqual(desk.keep(0, ("name", "item")), 1)
        self.assertEqual(desk.found(1), [])
        self.assertEqual(document.element("item"), 2)
        document.insert(1, 2)
        records = [("put", 1, ("e", 2, "item", (), ()), None)]
        self.assertEqual(desk.pause(), [(0, records), (1, records)])
        self.assertEqual(desk.found(1), [2])
        self.assertEqual(desk.known(0), ("e", 0, "top", (), (("e", 1, "list", (), (("e", 2, "item", (), ()),)),)))

    def test_numbers_in_one_row(self):
        desk = self.desk
        self.assertEqual([desk.look(0, EVERYTHING), desk.keep(0, ITEM), desk.keep(1, ITEM), desk.look(4, EVERYTHING),
                          desk.keep(6, ITEM), desk.look(7, ("own", (), False))], [0, 1, 2, 3, 4, 5])

    def test_at_the_beginning(self):
        for node, scope, marks, texts in product(range(8), SCOPES, (None, (), ("m",)), (True, False)):
            number = self.desk.look(node, (scope, marks, texts))
            self.assertEqual(self.desk.known(number), view(self.document.shape(node), (scope, marks, texts)))
        for node in (0, 1, 2, 5, 6):
            for test in (ITEM, MARKED, ("text", "x"), ("both", (("first",), ("value", "m", "1")))):
                number = self.desk.keep(node, test)
                self.assertEqual(self.desk.known(number), view(self.document.shape(node), options_of(test)))
                self.assertEqual(self.desk.found(number), answer(self.document.shape(node), test))
        self.assertEqual(self.desk.pause(), [])

    def test_between_pauses_nothing_that_is_known_changes(self):
        self.desk.look(0, EVERYTHING)
        self.desk.keep(0, ITEM)
        known, found = self.desk.known(0), self.desk.found(1)
        self.document.insert(5, 6)
        self.document.remove(2)
        self.document.mark(1, "m", "v")
        self.document.write(4, "new")
        self.assertEqual((self.desk.known(0), self.desk.found(1)), (known, found))
        self.desk.look(0, EVERYTHING)
        self.desk.keep(0, ITEM)
        self.assertEqual((self.desk.known(0), self.desk.found(1)), (known, found))
        self.assertEqual((self.desk.known(2), self.desk.found(3)), (self.document.shape(), [3, 6]))
        got = self.desk.pause()
        self.assertEqual([number for number, _ in got], [0, 1])
        self.assertEqual((self.desk.known(0), self.desk.found(1)), (self.document.shape(), [3, 6]))
        self.assertEqual((self.desk.known(2), self.desk.found(3)), (self.document.shape(), [3, 6]))

    def test_changes_ahead_of_the_beginning_do_not_count(self):
        self.document.insert(5, 6)
        self.desk.keep(0, ITEM)
        self.desk.look(5, EVERYTHING)
        self.assertEqual(self.desk.pause(), [])
        self.assertEqual(self.desk.found(0), [2, 3, 6])

    def test_by_options(self):
        numbers = [self.desk.look(1, options) for options in (
            ("own", ("m",), True), ("list", (), False), ("all", None, True), ("all", (), False))]
        watch = Watch(self.document)
        for options in (("own", ("m",), True), ("list", (), False), ("all", None, True), ("all", (), False)):
            watch.observe(1, options)
        self.document.mark(1, "m", "1")
        self.document.mark(2, "k", "1")
        self.document.write(4, "new")
        self.document.mark(6, "m", "2")
        self.document.insert(1, 6)
        self.document.insert(3, 7)
        self.assertEqual(self.desk.pause(), watch.pause())
        self.assertEqual([self.desk.known(number) for number in numbers], [watch.view(number) for number in numbers])

    def test_a_node_goes_out_is_edited_there_and_comes_back(self):
        self.desk.look(0, EVERYTHING)
        self.desk.keep(0, MARKED)
        self.desk.keep(1, MARKED)
        self.document.remove(1)
        self.document.mark(2, "m", "1")
        self.assertEqual(self.desk.pause(), [(0, [("out", 0, 1)]), (1, [("out", 0, 1)]), (2, [("mark", 2, "m", "1")])])
        self.assertEqual((self.desk.found(1), self.desk.found(2)), ([], [1]))
        self.document.insert(2, 6)
        self.document.mark(6, "m", "")
        self.document.remove(3)
        self.assertEqual([number for number, _ in self.desk.pause()], [2])
        self.assertEqual((self.desk.found(1), self.desk.found(2)), ([], [1, 2]))
        self.document.insert(5, 1)
        self.document.insert(0, 3, 5)
        self.desk.pause()
        self.assertEqual((self.desk.found(1), self.desk.found(2)), ([0, 5, 1, 2], [1, 2]))
        self.assertEqual(self.desk.known(0), self.document.shape())

    def test_a_kept_node_without_a_parent(self):
        self.desk.keep(6, ("under", ("any",)))
        self.document.insert(6, 5)
        self.desk.pause()
        self.assertEqual(self.desk.found(0), [5])
        self.document.insert(2, 6)
        self.assertEqual(self.desk.pause(), [])
        self.assertEqual(self.desk.found(0), [5])

    def test_no_such_node(self):
        for node in (-1, 8, 99, True, False, None, "0", 0.0, (0,)):
            for options in (EVERYTHING, None, ("any",)):
                self.refused(NoSuchNode, "number", node, self.desk.look, node, options)
            for test in (ITEM, None, ("name", "A")):
                self.refused(NoSuchNode, "number", node, self.desk.keep, node, test)

    def test_no_options_and_no_test(self):
        for node in range(8):
            for options in NO_OPTIONS + (ITEM,):
                self.refused(InvalidArgument, "name", "options", self.desk.look, node, options)
            # A text, too: that it is no element is told behind that.
            for test in NO_TESTS:
                self.refused(InvalidArgument, "name", "test", self.desk.keep, node, test)

    def test_not_an_element(self):
        for node in (4, 7):
            for test in (ITEM, ("any",), ("last",)):
                self.refused(RefusedError, "reason", "not an element", self.desk.keep, node, test)
            self.assertEqual(self.desk.known(self.desk.look(node, EVERYTHING)), self.document.shape(node))

    def test_no_such_observer(self):
        for call in (self.desk.known, self.desk.found):
            self.refused(NoSuchObserver, "number", 0, call, 0)
        self.desk.look(0, EVERYTHING)
        self.desk.keep(0, ITEM)
        self.desk.look(0, EVERYTHING)
        for number in NO_NUMBERS + (3,):
            self.refused(NoSuchObserver, "number", number, self.desk.known, number)
            self.refused(NoSuchObserver, "number", number, self.desk.found, number)
        for number in (0, 2):
            self.refused(NoSuchObserver, "number", number, self.desk.found, number)
        self.assertEqual(self.desk.found(1), [2, 3])

    def test_an_error_changes_nothing_and_takes_no_number(self):
        self.assertEqual(self.desk.keep(0, ITEM), 0)
        for call, arguments in ((self.desk.look, (99, EVERYTHING)), (self.desk.look, (0, None)), (self.desk.keep, (99, ITEM)),
                                (self.desk.keep, (0, None)), (self.desk.keep, (4, ITEM)), (self.desk.found, (1,))):
            with self.assertRaises(ValueError):
                call(*arguments)
        self.assertEqual(self.desk.look(0, EVERYTHING), 1)
        with self.assertRaises(RefusedError):
            self.desk.keep(4, ITEM)
        self.assertEqual(self.desk.keep(1, ITEM), 2)
        self.document.remove(2)
        self.assertEqual(self.desk.pause(), [(number, [("out", 1, 2)]) for number in (0, 1, 2)])
        self.assertEqual((self.desk.found(0), self.desk.found(2)), ([3], [3]))

    def test_what_is_handed_out_may_be_spoilt(self):
        self.desk.keep(0, ITEM)
        self.desk.found(0).clear()
        self.assertEqual(self.desk.found(0), [2, 3])
        self.document.insert(5, 6)
        got = self.desk.pause()
        got[0][1].clear()
        got.clear()
        self.assertEqual(self.desk.found(0), [2, 3, 6])
        self.document.remove(2)
        self.assertEqual(self.desk.pause(), [(0, [("out", 1, 2)])])
        self.assertEqual(self.desk.found(0), [3, 6])

    def test_desks_of_one_document_are_apart(self):
        other = Desk(self.document)
        self.desk.keep(0, ITEM)
        self.assertEqual(other.look(0, EVERYTHING), 0)
        self.document.remove(2)
        self.desk.pause()
        self.assertEqual(self.desk.found(0), [3])
        self.assertNotEqual(other.known(0), self.document.shape())
        self.assertEqual(len(other.pause()), 1)
        self.assertEqual(other.known(0), self.document.shape())

    def test_the_document_stays(self):
        before, many = self.document.shape(), len(self.document.changes())
        self.desk.look(0, EVERYTHING)
        self.desk.keep(0, ITEM)
        self.desk.pause()
        self.assertEqual((self.document.shape(), len(self.document.changes()), self.document.nodes()), (before, many, 8))


class ChanceTest(unittest.TestCase):
    """Points 1, 25 and 31 over the whole program: edits and pauses, and at each pause everything that is known."""

    def begin(self, chance, document, desk, watch, observers):
        node, test = chance.randrange(document.nodes()), chance_test(chance, chance.randint(1, 4), LEAVES)
        if chance.random() < 0.5 and document.shape(node)[0] == "e":
            options = options_of(test)
            self.assertEqual(desk.keep(node, test), watch.observe(node, options))
        else:
            test, options = None, (chance.choice(SCOPES), chance.choice((None, (), ("a",), ("a", "c"))), chance.random() < 0.5)
            self.assertEqual(desk.look(node, options), watch.observe(node, options))
        first = view(document.shape(node), options)
        observers.append([node, options, test, first, []])

    def known(self, desk, observers):
        return [(desk.known(number), desk.found(number) if observer[2] else None) for number, observer in enumerate(observers)]

    def test_by_chance(self):
        for seed in range(25):
            chance = random.Random(seed)
            document, observers = chance_document(chance, 14), []
            desk, watch = Desk(document), Watch(document)
            for _ in range(25):
                edit(chance, document)
            for _ in range(10):
                self.begin(chance, document, desk, watch, observers)
            for _ in range(8):
                before = self.known(desk, observers)
                for _ in range(chance.randrange(8)):
                    edit(chance, document)
                self.assertEqual(self.known(desk, observers), before)
                got = desk.pause()
                self.assertEqual(got, watch.pause())
                for number, records in got:
                    observers[number][4].extend(records)
                for number, (node, options, test, first, records) in enumerate(observers):
                    self.assertEqual(desk.known(number), view(document.shape(node), options))
                    self.assertEqual(desk.known(number), rebuild(first, records))
                    if test:
                        self.assertEqual(desk.found(number), answer(document.shape(node), test))
                self.begin(chance, document, desk, watch, observers)


if __name__ == "__main__":
    unittest.main()
