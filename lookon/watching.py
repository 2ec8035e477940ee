"""Observers: what they watch, and the records that they get."""

from lookon.errors import NoSuchObserver
from lookon.names import is_number
from lookon.views import bare, check_options, view, wants_mark


def told(change, node, options):
    """Return the list of the record that a change gives an observer: one, or none."""
    record, above = change
    if record[1] != node and (options[0] != "all" or node not in above):
        return []
    if record[0] == "mark":
        return [record] if wants_mark(options, record[2]) else []
    if record[0] == "text":
        return [record] if options[2] else []
    if options[0] == "own":
        return []
    if record[0] == "out":
        return [record]
    return [_put_told(record, options)]


def _put_told(record, options):
    """Return a put as options that are not those of a node alone show it."""
    _, target, child, before = record
    seen = view(child, options) if options[0] == "all" else bare(child)
    return ("put", target, seen, before)


class Observer:
    """An observer of a node by options, which has taken the changes ahead of the index `since`."""

    def __init__(self, node, options, since):
        self.node = node
        self.options = options
        self.since = since


class Watch:
    """The observers of a document."""

    def __init__(self, document):
        self._document = document
        self._observers = []

    def observe(self, node, options):
        """Begin to observe a node, and return the number of the observer."""
        # Asked only because it raises NoSuchNode, which is due ahead of the options.
        self._document.parent(node)
        check_options(options)
        self._observers.append(Observer(node, options, len(self._document.changes())))
        return len(self._observers) - 1

    def view(self, number):
        """Return the view of an observer as the document is now."""
        observer = self._observer(number)
        return view(self._document.shape(observer.node), observer.options)

    def take(self, number):
        """Take the records of an observer, and return their list."""
        observer = self._observer(number)
        changes = self._document.changes(observer.since)
        observer.since += len(changes)
        return [record for change in changes for record in told(change, observer.node, observer.options)]

    def pause(self):
        """Take the records of all observers, and return those of the observers that got any."""
        got = [(number, self.take(number)) for number in range(len(self._observers))]
        return [(number, records) for number, records in got if records]

    def _observer(self, number):
        """Return the observer with this number."""
        if not is_number(number) or number >= len(self._observers):
            raise NoSuchObserver(number)
        return self._observers[number]
