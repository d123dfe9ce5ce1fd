"""Offices: several of them keep one book together by letters."""

from duewrits.books import book_of, check_report, checked_amount
from duewrits.errors import NotAllowed
from duewrits.forms import is_day

MOST_LETTERS = 60


class Office:
    """An office and all its letters, those that it wrote and those that it took."""

    def __init__(self, name):
        self.name = name
        # The entry of each letter, by its stamp.
        self._entries = {}

    def write(self, entry):
        """Write a letter and return its stamp, or raise the error that is due."""
        own = self._own_stamps()
        self._check_turn(entry[1], own)
        number = max([stamp[2] for stamp in own], default=-1) + 1
        stamp = (entry[1], self.name, number)
        if entry[0] == "report":
            check_report(entry)
        elif entry[0] == "enact":
            checked_amount(entry)
        else:
            self._check_strike(entry[2], stamp)
        self._entries[stamp] = tuple(entry)
        return stamp

    def take(self, letters):
        """Take the letters that the office does not have, or raise what is due and take none."""
        entries = {stamp: self._entries[stamp] for stamp in self._entries}
        for stamp, entry in letters:
            if stamp in entries and entries[stamp] != entry:
                raise NotAllowed("another letter has this stamp")
            entries[stamp] = tuple(entry)
        if len(entries) > MOST_LETTERS:
            raise NotAllowed("an office has at most 60 letters")
        self._entries = entries

    def letters(self):
        """Return the list of all letters, in the order of their stamps."""
        return [(stamp, self._entries[stamp]) for stamp in sorted(self._entries)]

    def book(self):
        """Return a new book of the letters' entries, in the order of their stamps."""
        places = self._places()
        entries = []
        for stamp in places:
            entry = self._entries[stamp]
            if entry[0] == "strike":
                entry = ("strike", entry[1], places[entry[2]])
            entries.append(entry)
        return book_of(entries)

    def stamps(self):
        """Return the list of the stamps of the entries of the book, in order."""
        return list(self._places())

    def _places(self):
        """Return the index of each entry of the book by its stamp, in order."""
        places = {}
        struck = {}
        for stamp in sorted(self._entries):
            entry = self._entries[stamp]
            if entry[0] == "strike":
                if entry[2] in struck or not self._may_strike(entry[2], stamp):
                    continue
                struck[entry[2]] = True
            places[stamp] = len(places)
        return places

    def _may_strike(self, struck, stamp):
        """Return whether a letter of the one stamp can be struck by one of the other."""
        if struck not in self._entries or self._entries[struck][0] == "strike":
            return False
        return struck < stamp

    def _own_stamps(self):
        return [stamp for stamp in sorted(self._entries) if stamp[1] == self.name]

    def _check_turn(self, came, own):
        if len(self._entries) >= MOST_LETTERS:
            raise NotAllowed("an office has at most 60 letters")
        if not is_day(came):
            raise NotAllowed("the entry came on no day")
        if own and came < own[-1][0]:
            raise NotAllowed("the entry came before the last one that the office wrote")

    def _check_strike(self, struck, stamp):
        if not self._may_strike(struck, stamp):
            raise NotAllowed("there is no earlier report or enactment of this stamp")
