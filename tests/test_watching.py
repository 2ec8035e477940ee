import random
import unittest
from itertools import product

from lookon.documents import Document
from lookon.errors import InvalidArgument, NoSuchNode, NoSuchObserver
from lookon.shapes import find, replaced, with_child, with_mark, without_child
from lookon.views import EVERYTHING, view
from lookon.watching import Watch, told
from samples import SCOPES, chance_document, edit

NO_OPTIONS = (None, (), ["all", None, True], ("none", None, True), ("all", [], True), ("all", ("b", "a"), True),
              ("all", ("a", "a"), True), ("all", ("A",), True), ("all", None, 1), ("all", True, True), ("all", None))


class WatchCase(unittest.TestCase):
    def setUp(self):
        """top(0): list(1: item(2: "x"(3)), item(4)); loose(5{a="1" b="2"}: "y"(6), deep(7))."""
        self.document = document = Document()
        document.element("list")
        document.element("item")
        document.text("x")
        document.element("item")
        document.element("loose")
        document.text("y")
        document.element("deep")
        for parent, child in ((0, 1), (1, 2), (2, 3), (1, 4), (5, 6), (5, 7)):
            document.insert(parent, child)
        for number, name, value in ((5, "a", "1"), (5, "b", "2"), (7, "b", "3")):
            document.mark(number, name, value)
        self.loose = document.shape(5)
        self.watch = Watch(document)

    def records(self, node, options, *edits):
        """What an observer gets of some edits."""
        at = self.watch.observe(node, options)
        for method, *arguments in edits:
            getattr(self.document, method)(*arguments)
        return self.watch.take(at)

    def refused(self, error, attribute, value, call, *arguments):
        with self.assertRaises(error, msg=arguments) as caught:
            call(*arguments)
        self.assertIs(type(caught.exception), error)
        self.assertEqual(getattr(caught.exception, attribute), value)


class ObserveTest(WatchCase):
    def test_numbers_of_observers(self):
        self.assertEqual(self.watch.observe(1, EVERYTHING), 0)
        self.assertEqual(self.watch.observe(1, EVERYTHING), 1)
        self.assertEqual(self.watch.observe(0, ("own", (), False)), 2)
        self.assertEqual(self.watch.observe(3, ("list", ("a",), True)), 3)
        self.assertEqual(Watch(self.document).observe(1, EVERYTHING), 0)

    def test_numbers_that_there_are_not(self):
        for number in (8, -1, 60):
            self.refused(NoSuchNode, "number", number, self.watch.observe, number, EVERYTHING)
            self.refused(NoSuchNode, "number", number, self.watch.observe, number, None)

    def test_wrong_options(self):
        for options in NO_OPTIONS:
            self.refused(InvalidArgument, "name", "options", self.watch.observe, 1, options)

    def test_a_refused_call_makes_no_observer(self):
        for number, options in ((8, EVERYTHING), (1, None)):
            with self.assertRaises((NoSuchNode, InvalidArgument)):
                self.watch.observe(number, options)
        self.refused(NoSuchObserver, "number", 0, self.watch.view, 0)
        self.assertEqual(self.watch.observe(1, EVERYTHING), 0)

    def test_no_such_observer(self):
        for number in (0, 1, -1, 7):
            self.refused(NoSuchObserver, "number", number, self.watch.view, number)
            self.refused(NoSuchObserver, "number", number, self.watch.take, number)
        self.watch.observe(1, EVERYTHING)
        for number in (1, -1, True, False):
            self.refused(NoSuchObserver, "number", number, self.watch.view, number)
            self.refused(NoSuchObserver, "number", number, self.watch.take, number)
        self.assertEqual(self.watch.take(0), [])

    def test_view(self):
        for number, options in ((5, EVERYTHING), (5, ("list", None, True)), (5, ("own", ("b",), False)),
                                (3, ("own", None, False)), (0, ("all", (), False))):
            at = self.watch.observe(number, options)
            self.assertEqual(self.watch.view(at), view(self.document.shape(number), options))

    def test_the_view_is_that_of_now_and_takes_nothing(self):
        at = self.watch.observe(5, ("all", ("a",), True))
        self.document.mark(5, "a", "new")
        self.document.remove(7)
        self.assertEqual(self.watch.view(at), ("e", 5, "loose", (("a", "new"),), (("t", 6, "y"),)))
        self.assertEqual(self.watch.take(at), [("mark", 5, "a", "new"), ("out", 5, 7)])


class ReachTest(WatchCase):
    def test_at_the_node_itself(self):
        for scope in SCOPES:
            self.assertEqual(self.records(2, (scope, None, False), ("mark", 2, "m", scope)), [("mark", 2, "m", scope)])
            self.assertEqual(self.records(3, (scope, (), True), ("write", 3, scope)), [("text", 3, scope)])

    def test_the_children_of_the_node(self):
        deep = ("e", 7, "deep", (("b", "3"),), ())
        self.assertEqual(self.records(2, ("own", None, True), ("insert", 2, 7, 3), ("remove", 7)), [])
        self.assertEqual(self.records(2, ("list", None, True), ("insert", 2, 7, 3), ("remove", 7)),
                         [("put", 2, ("e", 7, "deep", (), ()), 3), ("out", 2, 7)])
        self.assertEqual(self.records(2, ("all", None, True), ("insert", 2, 7, 3), ("remove", 7)),
                         [("put", 2, deep, 3), ("out", 2, 7)])

    def test_below_the_node(self):
        edits = (("mark", 2, "m", "v"), ("write", 3, "new"), ("insert", 4, 7), ("unmark", 2, "m"), ("remove", 7))
        for scope in ("own", "list"):
            self.assertEqual(self.records(1, (scope, None, True), *edits), [])
            self.document.write(3, "x")
        for node in (0, 1):
            self.assertEqual(self.records(node, EVERYTHING, *edits), [
                ("mark", 2, "m", "v"), ("text", 3, "new"), ("put", 4, ("e", 7, "deep", (("b", "3"),), ()), None),
                ("mark", 2, "m", None), ("out", 4, 7)])
            self.document.write(3, "x")

    def test_above_the_node_and_beside_it(self):
        for scope in SCOPES:
            self.assertEqual(self.records(2, (scope, None, True), ("mark", 1, "m", scope), ("mark", 0, "m", scope),
                                          ("mark", 4, "m", scope), ("insert", 4, 7), ("remove", 7), ("write", 6, scope),
                                          ("insert", 0, 2), ("insert", 1, 2, 4), ("remove", 1), ("insert", 0, 1)), [])

    def test_the_node_without_parent(self):
        self.document.remove(1)
        self.assertEqual(self.records(1, EVERYTHING, ("mark", 2, "m", "v"), ("insert", 0, 1)), [("mark", 2, "m", "v")])
        self.document.remove(1)
        self.assertEqual(self.records(0, EVERYTHING, ("mark", 2, "m", "w")), [])

    def test_what_was_below_and_is_not_any_more(self):
        self.assertEqual(self.records(1, EVERYTHING, ("mark", 2, "m", "1"), ("remove", 2), ("mark", 2, "m", "2"),
                                      ("write", 3, "new"), ("remove", 3)),
                         [("mark", 2, "m", "1"), ("out", 1, 2)])

    def test_what_was_below_when_it_happened(self):
        self.assertEqual(self.records(1, EVERYTHING, ("write", 3, "new"), ("remove", 3), ("remove", 2)),
                         [("text", 3, "new"), ("out", 2, 3), ("out", 1, 2)])

    def test_what_comes_below(self):
        self.assertEqual(self.records(1, EVERYTHING, ("mark", 5, "a", "0"), ("insert", 2, 5), ("mark", 7, "b", "4")),
                         [("put", 2, ("e", 5, "loose", (("a", "0"), ("b", "2")), self.loose[4]), None),
                          ("mark", 7, "b", "4")])

    def test_a_move_below(self):
        self.assertEqual(self.records(1, ("all", (), True), ("insert", 4, 3)),
                         [("out", 2, 3), ("put", 4, ("t", 3, "x"), None)])
        self.assertEqual(self.records(2, ("all", (), True), ("insert", 2, 3)), [("put", 2, ("t", 3, "x"), None)])
        self.assertEqual(self.records(2, ("all", (), True), ("insert", 4, 3)), [("out", 2, 3)])

    def test_a_move_within_the_list(self):
        bare = ("e", 2, "item", (), ())
        self.assertEqual(self.records(1, ("list", None, True), ("insert", 1, 2)), [("out", 1, 2), ("put", 1, bare, None)])

    def test_what_changes_nothing_reaches_nobody(self):
        self.assertEqual(self.records(0, EVERYTHING, ("insert", 1, 2, 4), ("write", 3, "x"), ("unmark", 1, "m")), [])


class WantedTest(WatchCase):
    def test_marks(self):
        edits = (("mark", 2, "a", "1"), ("mark", 2, "b", "2"), ("unmark", 2, "a"), ("unmark", 2, "b"))
        first, second = ("mark", 2, "a", "1"), ("mark", 2, "b", "2")
        third, fourth = ("mark", 2, "a", None), ("mark", 2, "b", None)
        for scope in SCOPES:
            for marks, expected in ((None, [first, second, third, fourth]), ((), []), (("a",), [first, third]),
                                    (("a", "b"), [first, second, third, fourth]), (("b", "c"), [second, fourth]),
                                    (("c",), [])):
                self.assertEqual(self.records(2, (scope, marks, True), *edits), expected, (scope, marks))

    def test_texts(self):
        for scope in SCOPES:
            self.assertEqual(self.records(3, (scope, None, False), ("write", 3, "new " + scope)), [])
        self.assertEqual(self.records(0, ("all", None, False), ("write", 3, "other")), [])
        self.assertEqual(self.records(0, ("all", (), True), ("write", 3, "last")), [("text", 3, "last")])

    def test_what_a_put_shows(self):
        def put(scope, marks, texts):
            records = self.records(4, (scope, marks, texts), ("insert", 4, 5))
            self.document.remove(5)
            return records
        y, deep = ("t", 6, "y"), ("e", 7, "deep", (("b", "3"),), ())
        self.assertEqual(put("all", None, True), [("put", 4, self.loose, None)])
        self.assertEqual(put("all", None, False),
                         [("put", 4, ("e", 5, "loose", (("a", "1"), ("b", "2")), (("t", 6, ""), deep)), None)])
        self.assertEqual(put("all", ("b",), True), [("put", 4, ("e", 5, "loose", (("b", "2"),), (y, deep)), None)])
        self.assertEqual(put("all", ("a",), True),
                         [("put", 4, ("e", 5, "loose", (("a", "1"),), (y, ("e", 7, "deep", (), ()))), None)])
        self.assertEqual(put("all", (), False),
                         [("put", 4, ("e", 5, "loose", (), (("t", 6, ""), ("e", 7, "deep", (), ()))), None)])
        for marks, texts in product((None, (), ("a",)), (True, False)):
            self.assertEqual(put("list", marks, texts), [("put", 4, ("e", 5, "loose", (), ()), None)])
            self.assertEqual(put("own", marks, texts), [])

    def test_what_a_put_of_a_text_shows(self):
        for scope, texts, shown in (("all", True, "y"), ("all", False, ""), ("list", True, ""), ("list", False, "")):
            self.assertEqual(self.records(1, (scope, None, texts), ("insert", 1, 6, 2)),
                             [("put", 1, ("t", 6, shown), 2)])
            self.document.insert(5, 6, 7)


class TakeTest(WatchCase):
    def test_each_once_and_in_their_order(self):
        at = self.watch.observe(0, EVERYTHING)
        self.assertEqual(self.watch.take(at), [])
        self.document.write(3, "1")
        self.document.mark(1, "m", "2")
        self.document.write(3, "3")
        self.assertEqual(self.watch.take(at), [("text", 3, "1"), ("mark", 1, "m", "2"), ("text", 3, "3")])
        self.assertEqual(self.watch.take(at), [])
        self.document.unmark(1, "m")
        self.assertEqual(self.watch.take(at), [("mark", 1, "m", None)])

    def test_not_what_was_before_it_began(self):
        self.document.write(3, "1")
        first = self.watch.observe(0, EVERYTHING)
        self.document.write(3, "2")
        second = self.watch.observe(0, EVERYTHING)
        self.document.write(3, "3")
        self.assertEqual(self.watch.take(second), [("text", 3, "3")])
        self.assertEqual(self.watch.take(first), [("text", 3, "2"), ("text", 3, "3")])

    def test_observers_take_for_themselves(self):
        first, second = self.watch.observe(0, EVERYTHING), self.watch.observe(0, EVERYTHING)
        other = Watch(self.document)
        third = other.observe(0, EVERYTHING)
        self.document.write(3, "1")
        for watch, number in ((self.watch, first), (self.watch, second), (other, third)):
            self.assertEqual(watch.take(number), [("text", 3, "1")])
            self.assertEqual(watch.take(number), [])

    def test_the_list_is_the_callers(self):
        first, second = self.watch.observe(0, EVERYTHING), self.watch.observe(0, EVERYTHING)
        self.document.write(3, "1")
        self.watch.take(first).clear()
        self.assertEqual(self.watch.take(second), [("text", 3, "1")])
        self.assertEqual(len(self.document.changes()), 10)


class PauseTest(WatchCase):
    def test_without_observers(self):
        self.document.write(3, "1")
        self.assertEqual(self.watch.pause(), [])

    def test_those_that_got_any(self):
        for node, options in ((0, EVERYTHING), (2, ("own", None, False)), (3, ("own", (), True)),
                              (4, EVERYTHING), (1, ("list", (), False)), (0, ("all", (), False))):
            self.watch.observe(node, options)
        self.document.write(3, "1")
        self.document.mark(2, "m", "v")
        self.document.insert(1, 6, 4)
        self.assertEqual(self.watch.pause(), [
            (0, [("text", 3, "1"), ("mark", 2, "m", "v"), ("put", 1, ("t", 6, "y"), 4)]),
            (1, [("mark", 2, "m", "v")]),
            (2, [("text", 3, "1")]),
            (4, [("put", 1, ("t", 6, ""), 4)]),
            (5, [("put", 1, ("t", 6, ""), 4)])])

    def test_pause_behind_pause(self):
        for node in (0, 2, 4):
            self.watch.observe(node, EVERYTHING)
        self.assertEqual(self.watch.pause(), [])
        self.document.write(3, "1")
        self.assertEqual(self.watch.pause(), [(0, [("text", 3, "1")]), (1, [("text", 3, "1")])])
        self.assertEqual(self.watch.pause(), [])
        self.document.mark(4, "m", "v")
        self.assertEqual(self.watch.pause(), [(0, [("mark", 4, "m", "v")]), (2, [("mark", 4, "m", "v")])])
        self.assertEqual(self.watch.pause(), [])

    def test_pause_and_take(self):
        first, second = self.watch.observe(0, EVERYTHING), self.watch.observe(0, EVERYTHING)
        self.document.write(3, "1")
        self.watch.take(first)
        self.assertEqual(self.watch.pause(), [(second, [("text", 3, "1")])])
        self.assertEqual(self.watch.take(first), [])
        self.assertEqual(self.watch.take(second), [])


class ToldTest(WatchCase):
    def test_each_kind(self):
        put = (("put", 1, self.loose, 2), (1, 0))
        out, mark, text = (("out", 1, 2), (1, 0)), (("mark", 1, "m", None), (1, 0)), (("text", 3, "n"), (3, 2, 1, 0))
        self.assertEqual(told(put, 1, EVERYTHING), [put[0]])
        self.assertEqual(told(put, 0, EVERYTHING), [put[0]])
        self.assertEqual(told(put, 2, EVERYTHING), [])
        self.assertEqual(told(put, 5, EVERYTHING), [])
        self.assertEqual(told(put, 1, ("list", None, True)), [("put", 1, ("e", 5, "loose", (), ()), 2)])
        self.assertEqual(told(put, 0, ("list", None, True)), [])
        self.assertEqual(told(put, 1, ("own", None, True)), [])
        self.assertEqual(told(out, 1, ("list", (), False)), [out[0]])
        self.assertEqual(told(out, 0, ("all", (), False)), [out[0]])
        self.assertEqual(told(out, 1, ("own", None, True)), [])
        self.assertEqual(told(out, 2, EVERYTHING), [])
        self.assertEqual(told(mark, 1, ("own", ("m",), False)), [mark[0]])
        self.assertEqual(told(mark, 1, ("own", ("n",), True)), [])
        self.assertEqual(told(text, 3, ("own", (), True)), [text[0]])
        self.assertEqual(told(text, 2, ("list", (), True)), [])
        self.assertEqual(told(text, 2, ("all", (), True)), [text[0]])
        self.assertEqual(told(text, 2, ("all", None, False)), [])

    def test_it_needs_no_document_and_changes_nothing(self):
        change = (("put", 1, self.loose, None), (1, 0))
        told(change, 0, ("all", (), False)).append("a")
        self.assertEqual(change, (("put", 1, self.document.shape(5), None), (1, 0)))
        self.assertEqual(told(change, 0, EVERYTHING), [change[0]])


class KnowingTest(unittest.TestCase):
    """From the view at its beginning and its records alone each observer knows what it watches."""

    def behind(self, shape, record):
        target = find(shape, record[1])
        if record[0] == "put":
            new = with_child(target, record[2], record[3])
        elif record[0] == "out":
            new = without_child(target, record[2])
        elif record[0] == "mark":
            new = with_mark(target, record[2], record[3])
        else:
            new = ("t", record[1], record[2])
        return replaced(shape, record[1], new)

    def test_many_edits(self):
        chance = random.Random(28)
        choices = list(product(SCOPES, (None, (), ("a",), ("a", "c")), (True, False)))
        for _ in range(10):
            document, known = chance_document(chance, 15), []
            watch = Watch(document)
            for node in range(15):
                for options in chance.sample(choices, 6):
                    self.assertEqual(watch.observe(node, options), len(known))
                    known.append(view(document.shape(node), options))
            for _ in range(20):
                for _ in range(chance.randrange(8)):
                    edit(chance, document)
                for number, records in watch.pause():
                    for record in records:
                        known[number] = self.behind(known[number], record)
                self.assertEqual([watch.view(number) for number in range(len(known))], known)


if __name__ == "__main__":
    unittest.main()
