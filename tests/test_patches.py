import random
import unittest
from itertools import combinations, product

from lookon.errors import InvalidArgument
from lookon.patches import cost, patch, staying
from lookon.rebuilding import rebuild
from lookon.shapes import children_of, find, numbers_of, parts_of
from samples import WHOLE, chance_record, chance_shape


def element(number, *children, name="a", marks=()):
    return ("e", number, name, marks, children)


def text(number, words="x"):
    return ("t", number, words)


def row(numbers, make=text):
    """A root with these children."""
    return element(0, *[make(number) for number in numbers])


def is_alike(part, other):
    return part[0] == other[0] and (part[0] == "t" or part[2] == other[2])


def changed(part, other):
    """How many marks or texts of a node differ."""
    if part[0] == "t":
        return int(part[2] != other[2])
    return len({name for name, _ in {*part[3]} ^ {*other[3]}})


def fewest(part, other):
    """The fewest records between two nodes that stay: all choices of children that may stay are gone through."""
    ones, others = children_of(part), children_of(other)
    pairs = [(at, to) for at, one in enumerate(ones) for to, another in enumerate(others)
             if one[1] == another[1] and is_alike(one, another)]
    costs = {pair: fewest(ones[pair[0]], others[pair[1]]) for pair in pairs}
    best = len(ones) + len(others)
    for many in range(1, len(pairs) + 1):
        for chosen in combinations(pairs, many):
            if all(left[1] < right[1] for left, right in zip(chosen, chosen[1:])):
                best = min(best, len(ones) + len(others) - 2 * many + sum(costs[pair] for pair in chosen))
    return changed(part, other) + best


def taken_out(first, records):
    """The numbers of the nodes that records take out."""
    gone, whole = set(), first
    for record in records:
        if record[0] == "out":
            gone |= set(numbers_of(find(whole, record[2])))
        whole = rebuild(whole, [record])
    return gone


class PatchCase(unittest.TestCase):
    def check(self, first, second, many=None):
        kept = (repr(first), repr(second))
        records = patch(first, second)
        self.assertIsInstance(records, list)
        self.assertEqual(rebuild(first, records), second, (first, second))
        self.assertEqual(cost(first, second), len(records), (first, second))
        gone = taken_out(first, records)
        stays = [number for number in numbers_of(second) if number in numbers_of(first) and number not in gone]
        self.assertEqual(staying(first, second), stays, (first, second))
        self.assertEqual((repr(first), repr(second)), kept)
        if many is not None:
            self.assertEqual(len(records), many, (first, second))
        return records


class PatchTest(PatchCase):
    def test_the_example(self):
        records = self.check(row((1, 2, 3)), row((3, 1, 2)), 2)
        self.assertEqual(records, [("out", 0, 3), ("put", 0, ("t", 3, "x"), 1)])
        self.assertEqual(staying(row((1, 2, 3)), row((3, 1, 2))), [0, 1, 2])

    def test_to_itself(self):
        for whole in (WHOLE, element(3), text(4), text(4, ""), row((5, 2, 9)), row((1, 2), element)):
            self.assertEqual(self.check(whole, whole), [])
            self.assertEqual(staying(whole, whole), numbers_of(whole))

    def test_marks(self):
        marks = (("a", "1"), ("c", "3"))
        for other, expected in (
                ((("a", "2"), ("c", "3")), [("mark", 0, "a", "2")]), ((("c", "3"),), [("mark", 0, "a", None)]),
                ((("a", "1"), ("b", ""), ("c", "3")), [("mark", 0, "b", "")]),
                ((), [("mark", 0, "a", None), ("mark", 0, "c", None)]),
                ((("b", "1"), ("c", "1")), [("mark", 0, "a", None), ("mark", 0, "b", "1"), ("mark", 0, "c", "1")])):
            self.assertCountEqual(self.check(element(0, marks=marks), element(0, marks=other)), expected)
            self.check(element(0, marks=other), element(0, marks=marks), len(expected))

    def test_texts(self):
        self.assertEqual(self.check(text(3, "x"), text(3, "y")), [("text", 3, "y")])
        self.assertEqual(self.check(text(3, "x"), text(3, "")), [("text", 3, "")])
        first, second = element(0, text(1, "x"), text(2, "y")), element(0, text(1, "x"), text(2, "z"))
        self.assertEqual(self.check(first, second), [("text", 2, "z")])
        self.assertEqual(staying(first, second), [0, 1, 2])

    def test_outs_and_puts(self):
        self.assertEqual(self.check(row((1, 2, 3)), row((1, 3))), [("out", 0, 2)])
        self.assertEqual(self.check(row((1, 3)), row((1, 2, 3))), [("put", 0, text(2), 3)])
        self.assertEqual(self.check(row((1, 2)), row((1, 2, 3))), [("put", 0, text(3), None)])
        self.assertEqual(self.check(row(()), element(0, element(1, text(2), marks=(("m", ""),)))),
                         [("put", 0, element(1, text(2), marks=(("m", ""),)), None)])
        self.check(row((1, 2, 3)), row((4, 5)), 5)
        self.check(row(()), row((4, 5, 6)), 3)
        self.check(row((4, 5, 6)), row(()), 3)
        self.assertEqual(staying(row((1, 2, 3)), row((4, 3, 5))), [0, 3])

    def test_another_order(self):
        for numbers, many in (((3, 2, 1), 4), ((2, 1, 3), 2), ((2, 3, 4, 1), 2), ((4, 1, 2, 3), 2), ((2, 1, 4, 3), 4),
                              ((5, 4, 3, 2, 1), 8), ((3, 4, 1, 2), 4), ((1, 5, 2, 3, 4), 2), ((4, 5, 1, 2, 3), 4)):
            for make in (text, element):
                self.check(row(sorted(numbers), make), row(numbers, make), many)

    def test_another_order_where_what_stays_costs(self):
        # 1 and 2 have two changes or more within, so that 3 had better stay.
        def make(number, words):
            return element(number, *[text(10 * number + place, words) for place in range(number % 3)])
        first = element(0, make(1, "x"), make(2, "x"), make(3, "x"))
        second = element(0, make(3, "y"), make(1, "y"), make(2, "y"))
        self.check(first, second, 4)
        third = element(0, element(4, text(1), text(2)), text(3), text(5))
        fourth = element(0, text(5), element(4, text(1, "y"), text(2, "z")), text(3))
        self.check(third, fourth, 4)

    def test_what_costs_less_anew(self):
        many = tuple((name, "1") for name in "abc")
        self.check(element(0, element(1, marks=many)), element(0, element(1)), 2)
        self.assertEqual(staying(element(0, element(1, marks=many)), element(0, element(1))), [0])
        self.check(element(0, element(1, marks=many[:1])), element(0, element(1)), 1)
        self.assertEqual(staying(element(0, element(1, marks=many[:1])), element(0, element(1))), [0, 1])
        deep = element(0, element(1, element(2, element(3, marks=many))))
        self.check(deep, element(0, element(1, element(2, element(3)))), 2)
        # The root stays always, whatever it costs.
        self.check(element(0, marks=many), element(0), 3)

    def test_another_parent(self):
        first = element(0, element(1, text(3)), element(2))
        second = element(0, element(1), element(2, text(3)))
        self.check(first, second, 2)
        self.assertEqual(staying(first, second), [0, 1, 2])
        # Deeper, higher, and above what it was in.
        self.check(element(0, element(1), text(3)), element(0, element(1, text(3))), 2)
        self.check(element(0, element(1, text(3))), element(0, text(3), element(1)), 2)
        self.check(element(0, element(1, element(2, text(3)))), element(0, element(2, element(1, text(3)))), 2)
        # A parent that goes takes along what stays not.
        self.check(element(0, element(1, text(2), text(3))), element(0, text(2), text(3)), 3)

    def test_another_name(self):
        first, second = element(0, element(1, text(2))), element(0, element(1, text(2), name="b"))
        self.assertEqual(self.check(first, second), [("out", 0, 1), ("put", 0, second[4][0], None)])
        self.assertEqual(staying(first, second), [0])

    def test_a_text_in_the_one_and_an_element_in_the_other(self):
        first, second = element(0, text(1), text(2)), element(0, element(1), text(2))
        self.check(first, second, 2)
        self.check(second, first, 2)
        self.assertEqual(staying(first, second), [0, 2])

    def test_numbers_that_come_deeper(self):
        # What is put in has numbers of what goes somewhere else.
        self.check(element(0, element(1, text(5)), text(2)), element(0, text(2), element(7, element(1), text(5))), 2)
        self.check(element(0, element(1), element(2, text(3))), element(0, element(2, element(1, text(3)))), 3)

    def test_all_kinds_in_one(self):
        first = element(0, text(1), element(2, text(3)), text(4), element(5), marks=(("a", "1"),))
        second = element(0, text(1, "y"), element(6, text(4)), element(5), element(2, text(3)))
        records = self.check(first, second, 6)
        self.assertEqual({record[0] for record in records}, {"mark", "text", "put", "out"})

    def test_no_patch(self):
        for first, second in ((element(0), element(1)), (element(0), text(0)), (text(0), element(0)), (text(0), text(1)),
                              (element(0), element(0, name="b")), (element(0, text(1)), text(1)),
                              (WHOLE, WHOLE[4][1]), (WHOLE, WHOLE[:2] + ("tops",) + WHOLE[3:])):
            for call in (patch, cost, staying):
                for one, other in ((first, second), (second, first)):
                    with self.assertRaises(InvalidArgument, msg=(one, other)) as caught:
                        call(one, other)
                    self.assertIs(type(caught.exception), InvalidArgument)
                    self.assertEqual(caught.exception.name, "second")

    def test_deep_and_wide_views(self):
        deep, other = text(1000), text(1000, "y")
        for number in reversed(range(1000)):
            deep, other = element(number, deep), element(number, other)
        self.assertEqual(cost(deep, other), 1)
        self.assertEqual(patch(deep, other), [("text", 1000, "y")])
        self.check(row(range(1, 100)), row([*range(50, 100), *range(1, 50)]), 98)

    def test_what_is_returned_may_be_spoilt(self):
        first, second = row((1, 2, 3)), row((3, 1))
        patch(first, second).clear()
        staying(first, second).clear()
        self.check(first, second, 3)


class FewestTest(PatchCase):
    def test_each_order(self):
        for numbers in product((1, 2, 3, 4), repeat=3):
            if len({*numbers}) == 3:
                second = row(numbers)
                self.check(row((1, 2, 3)), second, fewest(row((1, 2, 3)), second))

    def test_between_any_views(self):
        chance = random.Random(23)
        for _ in range(6000):
            first, second = (chance_shape(chance, chance.randint(1, 8)) for _ in range(2))
            if first[1] == second[1] and is_alike(first, second):
                self.check(first, second, fewest(first, second))

    def test_some_records_on(self):
        chance = random.Random(24)
        for _ in range(250):
            first = second = chance_shape(chance, chance.randint(2, 20))
            many = chance.randint(0, 8)
            for _ in range(many):
                second = rebuild(second, [chance_record(chance, second)])
                # What went comes back elsewhere.
                gone = [part for part in parts_of(first) if part[1] not in numbers_of(second)]
                if gone and chance.random() < 0.5:
                    part = chance.choice(gone)
                    if not {*numbers_of(part)} & {*numbers_of(second)}:
                        target = chance.choice([part for part in parts_of(second) if part[0] == "e"])
                        second = rebuild(second, [("put", target[1], part, None)])
            self.check(first, second, fewest(first, second))
            self.assertLessEqual(cost(first, second), 2 * many)

    def test_no_other_records_are_fewer(self):
        # All rows of records, one after another, within three numbers, two texts and a mark of the root.
        def rows(numbers):
            """All rows of shapes with just these numbers."""
            yield from [()] if not numbers else ()
            for many in range(1, len(numbers) + 1):
                for chosen in combinations(numbers, many):
                    rest = [number for number in numbers if number not in chosen]
                    yield from ((head, *others) for head in heads(chosen) for others in rows(rest))

        def heads(numbers):
            for number in numbers:
                rest = [other for other in numbers if other != number]
                yield from (text(number, words) for words in "xy" if not rest)
                yield from (element(number, *children) for children in rows(rest))

        def steps(whole):
            there = {*numbers_of(whole)}
            yield ("mark", 0, "m", None if whole[3] else "1")
            for part in parts_of(whole):
                if part[0] == "t":
                    yield from (("text", part[1], words) for words in "xy" if words != part[2])
                    continue
                yield from (("out", part[1], child[1]) for child in part[4])
                for new in news:
                    if there.isdisjoint(numbers_of(new)):
                        yield from (("put", part[1], new, before) for before in [None, *numbers_of(part)[1:]]
                                    if before is None or before in [child[1] for child in part[4]])
        news = [new for many in (1, 2, 3) for numbers in combinations((1, 2, 3), many) for new in heads(numbers)]
        for first in (row((1, 2, 3)), element(0, element(1, text(2)), element(3))):
            least, left, many = {first: 0}, [first], 0
            while left:
                many += 1
                left = {rebuild(whole, [record]) for whole in left for record in steps(whole)} - least.keys()
                least.update((whole, many) for whole in left)
            self.assertGreater(len(least), 500)
            for second, many in least.items():
                self.assertEqual(cost(first, second), many, (first, second))


if __name__ == "__main__":
    unittest.main()
