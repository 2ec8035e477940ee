"""Live lists: answers that are kept by records."""

from lookon.matching import answer
from lookon.needs import may_touch
from lookon.rebuilding import behind


class LiveList:
    """The answer of a test in a view, which is kept up to date by records alone."""

    def __init__(self, test, view):
        self._test = test
        self._whole = view
        self._numbers = answer(view, test)
        self._looks = 1

    def answer(self):
        """Return the list of the numbers of all elements that fulfil the test now."""
        return list(self._numbers)

    def view(self):
        """Return the view behind all records that were taken."""
        return self._whole

    def apply(self, records):
        """Take a row of records, and return the numbers that went out of the answer and those that came."""
        whole = self._whole
        touched = False
        for place, record in enumerate(records):
            after = behind(whole, record, place)
            touched = touched or may_touch(self._test, whole, record)
            whole = after
        self._whole = whole
        if not touched:
            return ([], [])
        old = self._numbers
        self._numbers = answer(whole, self._test)
        self._looks += 1
        return (_without(old, self._numbers), _without(self._numbers, old))

    def asked(self):
        """Return how often the answer was found afresh."""
        return self._looks


def _without(numbers, others):
    """Return the list of those numbers that are not among the others."""
    return [number for number in numbers if number not in others]
