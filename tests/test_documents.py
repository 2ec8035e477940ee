import random
import unittest

from lookon.documents import Document
from lookon.errors import InvalidArgument, NoSuchNode, RefusedError
from lookon.shapes import is_shape, numbers_of

NO_NAMES = ("", "A", "abcdefghi", "a b", "a1", "%", None, 1, True, b"a", ["a"])
NO_PLAIN_TEXTS = ("%", "x" * 21, "\n", "\x7f", "\u00e4", None, 1, True, b"a", ["a"])


def state(document):
    """All that a document tells of itself."""
    numbers = range(document.nodes())
    return ([document.shape(number) for number in numbers], [document.parent(number) for number in numbers],
            [document.children(number) for number in numbers], [document.above(number) for number in numbers],
            document.changes())


class DocumentCase(unittest.TestCase):
    def setUp(self):
        """top(0): list(1: item(2), "x"(3), item(4)), note(5); loose(6: "y"(7)), "z"(8) without parents."""
        self.document = document = Document()
        for name in ("list", "item"):
            document.element(name)
        document.text("x")
        for name in ("item", "note", "loose"):
            document.element(name)
        document.text("y")
        document.text("z")
        for parent, child in ((0, 1), (1, 2), (1, 3), (1, 4), (0, 5), (6, 7)):
            document.insert(parent, child)
        self.start = len(document.changes())

    def news(self):
        return self.document.changes(self.start)

    def refused(self, error, attribute, value, method, *arguments):
        before = state(self.document)
        with self.assertRaises(error, msg=(method, arguments)) as caught:
            getattr(self.document, method)(*arguments)
        self.assertIs(type(caught.exception), error)
        self.assertEqual(getattr(caught.exception, attribute), value, (method, arguments))
        self.assertEqual(state(self.document), before)

    def nothing_happens(self, method, *arguments):
        before = state(self.document)
        self.assertIsNone(getattr(self.document, method)(*arguments))
        self.assertEqual(state(self.document), before)


class MakingTest(DocumentCase):
    def test_a_new_document(self):
        document = Document()
        self.assertEqual(document.nodes(), 1)
        self.assertEqual(document.shape(), ("e", 0, "top", (), ()))
        self.assertIsNone(document.parent(0))
        self.assertEqual(document.children(0), [])
        self.assertEqual(document.above(0), (0,))
        self.assertEqual(document.changes(), [])

    def test_new_nodes(self):
        document = Document()
        self.assertEqual(document.element("a"), 1)
        self.assertEqual(document.text("some words"), 2)
        self.assertEqual(document.text(""), 3)
        self.assertEqual(document.element("abcdefgh"), 4)
        self.assertEqual(document.nodes(), 5)
        self.assertEqual(document.shape(1), ("e", 1, "a", (), ()))
        self.assertEqual(document.shape(2), ("t", 2, "some words"))
        self.assertEqual(document.shape(3), ("t", 3, ""))
        self.assertEqual(document.shape(4), ("e", 4, "abcdefgh", (), ()))
        self.assertEqual([document.parent(number) for number in range(5)], [None] * 5)
        self.assertEqual([document.children(number) for number in range(5)], [[]] * 5)
        self.assertEqual(document.shape(), ("e", 0, "top", (), ()))

    def test_making_is_no_change(self):
        self.document.element("a")
        self.document.text("b")
        self.assertEqual(self.news(), [])

    def test_documents_do_not_share(self):
        self.assertEqual(Document().nodes(), 1)
        self.assertEqual(Document().changes(), [])

    def test_wrong_names_and_texts(self):
        for name in NO_NAMES:
            self.refused(InvalidArgument, "name", "name", "element", name)
        for text in NO_PLAIN_TEXTS:
            self.refused(InvalidArgument, "name", "text", "text", text)

    def test_sixty_nodes(self):
        while self.document.nodes() < 60:
            self.assertEqual(self.document.element("a"), self.document.nodes() - 1)
        self.refused(RefusedError, "reason", "full", "element", "a")
        self.refused(RefusedError, "reason", "full", "text", "a")
        self.refused(InvalidArgument, "name", "name", "element", "A")
        self.refused(InvalidArgument, "name", "text", "text", "%")
        self.assertEqual(self.document.nodes(), 60)
        self.refused(NoSuchNode, "number", 60, "shape", 60)
        self.document.insert(0, 59)
        self.assertEqual(self.document.parent(59), 0)

    def test_sixty_texts(self):
        document = Document()
        self.assertEqual([document.text("") for _ in range(59)], list(range(1, 60)))
        with self.assertRaises(RefusedError):
            document.text("")

    def test_going_out_makes_no_room(self):
        while self.document.nodes() < 60:
            self.document.text("")
        self.document.remove(1)
        self.refused(RefusedError, "reason", "full", "text", "a")


class InsertTest(DocumentCase):
    def test_the_records_of_the_beginning(self):
        changes = self.document.changes()
        self.assertEqual(changes[0], (("put", 0, ("e", 1, "list", (), ()), None), (0,)))
        self.assertEqual(changes[1], (("put", 1, ("e", 2, "item", (), ()), None), (1, 0)))
        self.assertEqual(changes[2], (("put", 1, ("t", 3, "x"), None), (1, 0)))
        self.assertEqual(changes[5], (("put", 6, ("t", 7, "y"), None), (6,)))
        self.assertEqual(len(changes), 6)

    def test_at_the_end(self):
        self.assertIsNone(self.document.insert(1, 8))
        self.assertEqual(self.document.children(1), [2, 3, 4, 8])
        self.assertEqual(self.document.parent(8), 1)
        self.assertEqual(self.news(), [(("put", 1, ("t", 8, "z"), None), (1, 0))])

    def test_ahead_of_a_child(self):
        self.document.insert(1, 8, 2)
        self.assertEqual(self.document.children(1), [8, 2, 3, 4])
        self.document.insert(1, 6, before=4)
        self.assertEqual(self.document.children(1), [8, 2, 3, 6, 4])
        self.assertEqual(self.news(), [
            (("put", 1, ("t", 8, "z"), 2), (1, 0)),
            (("put", 1, ("e", 6, "loose", (), (("t", 7, "y"),)), 4), (1, 0))])

    def test_the_shape_that_it_has(self):
        self.document.mark(6, "b", "2")
        self.document.mark(6, "a", "1")
        self.document.insert(2, 6)
        self.assertEqual(self.news()[-1],
                         (("put", 2, ("e", 6, "loose", (("a", "1"), ("b", "2")), (("t", 7, "y"),)), None), (2, 1, 0)))

    def test_the_shape_in_a_record_stays(self):
        self.document.insert(0, 6)
        self.document.write(7, "other")
        self.document.mark(6, "a", "1")
        self.document.remove(7)
        self.assertEqual(self.news()[0], (("put", 0, ("e", 6, "loose", (), (("t", 7, "y"),)), None), (0,)))

    def test_out_of_another_parent(self):
        self.document.insert(5, 2)
        self.assertEqual(self.document.children(1), [3, 4])
        self.assertEqual(self.document.children(5), [2])
        self.assertEqual(self.document.above(2), (2, 5, 0))
        self.assertEqual(self.news(), [
            (("out", 1, 2), (1, 0)),
            (("put", 5, ("e", 2, "item", (), ()), None), (5, 0))])

    def test_out_of_a_parent_that_is_not_below_the_top(self):
        self.document.insert(1, 7, 3)
        self.assertEqual(self.news(), [(("out", 6, 7), (6,)), (("put", 1, ("t", 7, "y"), 3), (1, 0))])

    def test_into_an_element_without_parent(self):
        self.document.insert(6, 1, 7)
        self.assertEqual(self.document.shape(), ("e", 0, "top", (), (("e", 5, "note", (), ()),)))
        self.assertEqual(self.document.above(3), (3, 1, 6))
        self.assertEqual([change[1] for change in self.news()], [(0,), (6,)])

    def test_up_to_its_grandparent(self):
        self.document.insert(0, 3, 1)
        self.assertEqual(self.document.children(0), [3, 1, 5])
        self.assertEqual(self.news(), [(("out", 1, 3), (1, 0)), (("put", 0, ("t", 3, "x"), 1), (0,))])

    def test_within_the_same_parent(self):
        item, words = ("e", 2, "item", (), ()), ("t", 3, "x")
        self.document.insert(1, 2)
        self.assertEqual(self.document.children(1), [3, 4, 2])
        self.document.insert(1, 2, 4)
        self.assertEqual(self.document.children(1), [3, 2, 4])
        self.document.insert(1, 3, 4)
        self.assertEqual(self.document.children(1), [2, 3, 4])
        self.assertEqual(self.news(), [
            (("out", 1, 2), (1, 0)), (("put", 1, item, None), (1, 0)),
            (("out", 1, 2), (1, 0)), (("put", 1, item, 4), (1, 0)),
            (("out", 1, 3), (1, 0)), (("put", 1, words, 4), (1, 0))])

    def test_to_the_front(self):
        self.document.insert(1, 4, 2)
        self.assertEqual(self.document.children(1), [4, 2, 3])

    def test_where_it_is_already(self):
        self.nothing_happens("insert", 1, 2, 3)
        self.nothing_happens("insert", 1, 3, 4)
        self.nothing_happens("insert", 1, 4)
        self.nothing_happens("insert", 1, 4, None)
        self.nothing_happens("insert", 0, 1, 5)
        self.nothing_happens("insert", 0, 5)
        self.nothing_happens("insert", 6, 7)

    def test_refusals(self):
        self.refused(RefusedError, "reason", "not an element", "insert", 3, 8)
        self.refused(RefusedError, "reason", "top", "insert", 5, 0)
        self.refused(RefusedError, "reason", "inside itself", "insert", 1, 1)
        self.refused(RefusedError, "reason", "inside itself", "insert", 2, 1)
        self.refused(RefusedError, "reason", "inside itself", "insert", 6, 6)
        self.refused(RefusedError, "reason", "not a child", "insert", 1, 8, 5)
        self.refused(RefusedError, "reason", "not a child", "insert", 0, 8, 2)
        self.refused(RefusedError, "reason", "not a child", "insert", 1, 8, 8)
        self.refused(RefusedError, "reason", "not a child", "insert", 1, 2, 2)
        self.refused(RefusedError, "reason", "not a child", "insert", 1, 4, 4)
        self.refused(RefusedError, "reason", "not a child", "insert", 1, 2, 1)
        self.refused(RefusedError, "reason", "not a child", "insert", 1, 2, 0)

    def test_far_above(self):
        self.document.insert(2, 6)
        self.document.insert(6, 5)
        self.refused(RefusedError, "reason", "inside itself", "insert", 5, 1)
        self.refused(RefusedError, "reason", "inside itself", "insert", 5, 2)
        self.refused(RefusedError, "reason", "inside itself", "insert", 5, 6)
        self.document.insert(5, 3)
        self.assertEqual(self.document.above(3), (3, 5, 6, 2, 1, 0))

    def test_numbers_that_there_are_not(self):
        for number in (9, 60, -1, 10 ** 9):
            self.refused(NoSuchNode, "number", number, "insert", number, 2)
            self.refused(NoSuchNode, "number", number, "insert", 1, number)
            self.refused(NoSuchNode, "number", number, "insert", 1, 8, number)
        self.refused(NoSuchNode, "number", 20, "insert", 20, 30, 40)
        self.refused(NoSuchNode, "number", 30, "insert", 1, 30, 40)
        self.refused(NoSuchNode, "number", 30, "insert", 3, 30, 3)
        self.refused(NoSuchNode, "number", 40, "insert", 3, 0, 40)
        self.refused(NoSuchNode, "number", 40, "insert", 1, 1, 40)
        self.refused(NoSuchNode, "number", 40, "insert", 1, 0, 40)

    def test_the_order_of_the_refusals(self):
        self.refused(RefusedError, "reason", "not an element", "insert", 3, 0, 3)
        self.refused(RefusedError, "reason", "not an element", "insert", 3, 3, 3)
        self.refused(RefusedError, "reason", "not an element", "insert", 3, 1, 5)
        self.refused(RefusedError, "reason", "top", "insert", 0, 0, 0)
        self.refused(RefusedError, "reason", "top", "insert", 2, 0, 5)
        self.refused(RefusedError, "reason", "inside itself", "insert", 1, 1, 5)
        self.refused(RefusedError, "reason", "inside itself", "insert", 2, 1, 5)
        self.refused(RefusedError, "reason", "inside itself", "insert", 1, 1, 1)


class RemoveTest(DocumentCase):
    def test_it_goes_out_with_all_below(self):
        self.assertIsNone(self.document.remove(1))
        self.assertEqual(self.document.children(0), [5])
        self.assertIsNone(self.document.parent(1))
        self.assertEqual(self.document.above(3), (3, 1))
        self.assertEqual(numbers_of(self.document.shape(1)), [1, 2, 3, 4])
        self.assertEqual(self.news(), [(("out", 0, 1), (0,))])

    def test_from_between(self):
        self.document.remove(3)
        self.assertEqual(self.document.children(1), [2, 4])
        self.assertEqual(self.news(), [(("out", 1, 3), (1, 0))])

    def test_what_was_above_is_kept(self):
        self.document.remove(1)
        self.document.remove(3)
        self.document.insert(5, 1)
        self.document.remove(4)
        self.assertEqual([change[1] for change in self.news()], [(0,), (1,), (5, 0), (1, 5, 0)])

    def test_no_parent(self):
        for number in (0, 6, 8):
            self.refused(RefusedError, "reason", "no parent", "remove", number)
        self.document.remove(2)
        self.refused(RefusedError, "reason", "no parent", "remove", 2)

    def test_numbers_that_there_are_not(self):
        for number in (9, -1, 60):
            self.refused(NoSuchNode, "number", number, "remove", number)


class MarkTest(DocumentCase):
    def test_marks(self):
        self.assertIsNone(self.document.mark(1, "kind", "a"))
        self.document.mark(1, "b", "")
        self.document.mark(1, "zz", "~")
        self.document.mark(0, "kind", "top")
        self.document.mark(6, "kind", "x" * 20)
        self.assertEqual(self.document.shape(1)[3], (("b", ""), ("kind", "a"), ("zz", "~")))
        self.assertEqual(self.document.shape(0)[3], (("kind", "top"),))
        self.assertEqual(self.document.shape(6)[3], (("kind", "x" * 20),))
        self.assertEqual(self.news(), [
            (("mark", 1, "kind", "a"), (1, 0)), (("mark", 1, "b", ""), (1, 0)), (("mark", 1, "zz", "~"), (1, 0)),
            (("mark", 0, "kind", "top"), (0,)), (("mark", 6, "kind", "x" * 20), (6,))])

    def test_another_value(self):
        self.document.mark(1, "kind", "a")
        self.document.mark(1, "kind", "")
        self.assertEqual(self.document.shape(1)[3], (("kind", ""),))
        self.assertEqual(self.news()[1:], [(("mark", 1, "kind", ""), (1, 0))])

    def test_unmark(self):
        self.document.mark(2, "a", "1")
        self.document.mark(2, "b", "")
        self.assertIsNone(self.document.unmark(2, "a"))
        self.assertEqual(self.document.shape(2)[3], (("b", ""),))
        self.document.unmark(2, "b")
        self.assertEqual(self.document.shape(2)[3], ())
        self.assertEqual(self.news()[2:], [
            (("mark", 2, "a", None), (2, 1, 0)), (("mark", 2, "b", None), (2, 1, 0))])

    def test_what_is_the_same_already(self):
        self.nothing_happens("unmark", 1, "kind")
        self.document.mark(1, "kind", "a")
        self.document.mark(1, "empty", "")
        self.nothing_happens("mark", 1, "kind", "a")
        self.nothing_happens("mark", 1, "empty", "")
        self.nothing_happens("unmark", 1, "kin")
        self.document.unmark(1, "kind")
        self.nothing_happens("unmark", 1, "kind")

    def test_wrong_names_and_values(self):
        for name in NO_NAMES:
            self.refused(InvalidArgument, "name", "name", "mark", 1, name, "a")
            self.refused(InvalidArgument, "name", "name", "unmark", 1, name)
        for value in NO_PLAIN_TEXTS:
            self.refused(InvalidArgument, "name", "value", "mark", 1, "a", value)

    def test_the_order_of_the_errors(self):
        self.refused(RefusedError, "reason", "not an element", "mark", 3, "a", "b")
        self.refused(RefusedError, "reason", "not an element", "unmark", 3, "a")
        self.refused(InvalidArgument, "name", "value", "mark", 3, "a", "%")
        self.refused(InvalidArgument, "name", "name", "mark", 3, "A", "%")
        self.refused(InvalidArgument, "name", "name", "unmark", 3, "A")
        for number in (9, -1, 60):
            self.refused(NoSuchNode, "number", number, "mark", number, "A", "%")
            self.refused(NoSuchNode, "number", number, "unmark", number, "A")


class WriteTest(DocumentCase):
    def test_write(self):
        self.assertIsNone(self.document.write(3, "other"))
        self.document.write(3, "")
        self.document.write(8, "x" * 20)
        self.assertEqual(self.document.shape(3), ("t", 3, ""))
        self.assertEqual(self.document.shape(8), ("t", 8, "x" * 20))
        self.assertEqual(self.news(), [(("text", 3, "other"), (3, 1, 0)), (("text", 3, ""), (3, 1, 0)),
                                       (("text", 8, "x" * 20), (8,))])

    def test_the_same_text(self):
        self.nothing_happens("write", 3, "x")
        self.document.write(3, "")
        self.nothing_happens("write", 3, "")

    def test_refusals(self):
        for text in NO_PLAIN_TEXTS:
            self.refused(InvalidArgument, "name", "text", "write", 3, text)
        for number in (0, 1, 6):
            self.refused(RefusedError, "reason", "not a text", "write", number, "a")
        self.refused(InvalidArgument, "name", "text", "write", 1, "%")
        for number in (9, -1, 60):
            self.refused(NoSuchNode, "number", number, "write", number, "%")


class ReadingTest(DocumentCase):
    def test_shape(self):
        inner = ("e", 1, "list", (), (("e", 2, "item", (), ()), ("t", 3, "x"), ("e", 4, "item", (), ())))
        self.assertEqual(self.document.shape(1), inner)
        self.assertEqual(self.document.shape(), ("e", 0, "top", (), (inner, ("e", 5, "note", (), ()))))
        self.assertEqual(self.document.shape(0), self.document.shape())
        self.assertEqual(self.document.shape(number=6), ("e", 6, "loose", (), (("t", 7, "y"),)))
        self.assertTrue(is_shape(self.document.shape()))

    def test_parents_and_children(self):
        self.assertEqual([self.document.parent(number) for number in range(9)],
                         [None, 0, 1, 1, 1, 0, None, 6, None])
        self.assertEqual([self.document.children(number) for number in range(9)],
                         [[1, 5], [2, 3, 4], [], [], [], [], [7], [], []])

    def test_above(self):
        self.assertEqual([self.document.above(number) for number in range(9)],
                         [(0,), (1, 0), (2, 1, 0), (3, 1, 0), (4, 1, 0), (5, 0), (6,), (7, 6), (8,)])

    def test_numbers_that_there_are_not(self):
        for method in ("shape", "parent", "children", "above"):
            for number in (9, -1, 60):
                self.refused(NoSuchNode, "number", number, method, number)

    def test_a_bool_is_no_number(self):
        for method in ("shape", "parent", "children", "above", "remove"):
            self.refused(NoSuchNode, "number", True, method, True)

    def test_changes_from_an_index_on(self):
        changes = self.document.changes()
        self.assertEqual(len(changes), 6)
        for start in range(8):
            self.assertEqual(self.document.changes(start), changes[start:])
        self.assertEqual(self.document.changes(start=5), changes[5:])
        self.assertEqual(self.document.changes(100), [])

    def test_lists_are_the_callers(self):
        before = repr(state(self.document))
        self.document.children(1).append(5)
        self.document.children(1).clear()
        self.document.children(3).append(5)
        self.document.changes().clear()
        self.document.changes(2).append("a")
        self.document.changes(0).reverse()
        self.assertEqual(repr(state(self.document)), before)
        self.document.insert(1, 8)
        self.assertEqual(self.document.children(1), [2, 3, 4, 8])

    def test_sixty_nodes_one_below_the_other(self):
        document = Document()
        for number in range(1, 60):
            document.element("a")
            document.insert(number - 1, number)
        self.assertEqual(document.above(59), tuple(reversed(range(60))))
        self.assertEqual(numbers_of(document.shape()), list(range(60)))
        with self.assertRaises(RefusedError):
            document.insert(59, 1)


class ManyEditsTest(unittest.TestCase):
    def test_the_tree_stays_one(self):
        chance = random.Random(9)
        document = Document()
        for number in range(1, 20):
            self.assertEqual(document.text("") if chance.random() < 0.3 else document.element("a"), number)
        for _ in range(2000):
            before = state(document)
            number, other = chance.randrange(20), chance.randrange(20)
            try:
                if chance.random() < 0.2:
                    document.remove(number)
                elif chance.random() < 0.5:
                    document.insert(number, other)
                else:
                    document.insert(number, other, chance.choice(document.children(number) or [None]))
            except RefusedError:
                self.assertEqual(state(document), before)
            for number in range(20):
                self.assertTrue(is_shape(document.shape(number)))
                for child in document.children(number):
                    self.assertEqual(document.parent(child), number)
                if document.parent(number) is not None:
                    self.assertEqual(document.children(document.parent(number)).count(number), 1)
        self.assertGreater(len(document.changes()), 500)


if __name__ == "__main__":
    unittest.main()
