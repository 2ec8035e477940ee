"""The desk: what observers know at the pauses."""

from lookon.errors import InvalidArgument, NoSuchObserver, RefusedError
from lookon.lists import LiveList
from lookon.names import is_number
from lookon.needs import options_of
from lookon.queries import is_test
from lookon.rebuilding import Mirror
from lookon.watching import Watch


class Desk:
    """The observers of a document, with what they know and the answers that they keep, by records alone."""

    def __init__(self, document):
        self._document = document
        self._watch = Watch(document)
        # Mirrors and live lists, by the numbers of their observers.
        self._keepers = []

    def look(self, node, options):
        """Begin to observe a node, and return the number of the observer."""
        number = self._watch.observe(node, options)
        self._keepers.append(Mirror(self._watch.view(number)))
        return number

    def keep(self, node, test):
        """Begin to keep the answer of a test in the view of a node, and return the number of its observer."""
        shape = self._document.shape(node)
        if not is_test(test):
            raise InvalidArgument("test")
        if shape[0] == "t":
            raise RefusedError("not an element")
        number = self._watch.observe(node, options_of(test))
        self._keepers.append(LiveList(test, self._watch.view(number)))
        return number

    def known(self, number):
        """Return the view that an observer knows."""
        return self._keeper(number).view()

    def found(self, number):
        """Return the list of the numbers that an observer keeps."""
        keeper = self._keeper(number)
        if not isinstance(keeper, LiveList):
            raise NoSuchObserver(number)
        return keeper.answer()

    def pause(self):
        """Take the records of all observers, bring up to date what is known, and return those records."""
        got = self._watch.pause()
        for number, records in got:
            self._keepers[number].apply(records)
        return got

    def _keeper(self, number):
        """Return the mirror or the live list of an observer."""
        if not is_number(number) or number >= len(self._keepers):
            raise NoSuchObserver(number)
        return self._keepers[number]
