"""Logs: lines told one by one, struck, put back and undone, and marks to come back to."""

from struckdeeds.books import asking_for, book_of, book_world, is_number, needs, told_on
from struckdeeds.deeds import ended_by, must_stand
from struckdeeds.errors import NoLine, NoMark, NoName, NoNeed, NotNow
from struckdeeds.strikes import goes
from struckdeeds.ways import steps_between
from struckdeeds.words import is_name


class Log:
    """A start, the lines told so far, and which of them stand."""

    def __init__(self, start):
        self.start = start
        self.told = ()
        self.standing = ()
        self.marks = {}

    def tell(self, hand, deed):
        """The number of the new line, which stands behind all; NoName, NoDeed or NotNow."""
        told_on(self.world(), self.whole(), hand, deed)
        number = len(self.told)
        self.told += ((hand, deed),)
        self.standing += (number,)
        return number

    def strike(self, number):
        """Strikes a line that stands, and tells all that went; NoLine."""
        if not is_number(self.whole(), number) or number not in self.standing:
            raise NoLine(number)
        return self.take_out((number,))

    def put_back(self, number):
        """Lets a line that doesn't stand do so again, and tells all that went; NoLine, NoNeed or NotNow."""
        if not is_number(self.whole(), number) or number in self.standing:
            raise NoLine(number)
        deed = self.told[number][1]
        self.refuse_to_put_back(number, deed)
        behind = [other for other in self.standing if other > number]
        went = self.take_out(asking_for(self.whole(), behind, ended_by(deed)))
        self.standing = tuple(sorted(self.standing + (number,)))
        return went

    def refuse_to_put_back(self, number, deed):
        """NoNeed with the least need that doesn't stand, then NotNow with the first name that was ended ahead."""
        for need in needs(self.whole(), number):
            if need not in self.standing:
                raise NoNeed(need)
        ended = [ended_by(self.told[other][1]) for other in self.standing if other < number]
        for name in must_stand(deed):
            if name in ended:
                raise NotNow(name)

    def undo(self, hand):
        """Strikes the hand's last line that stands, and tells all that went; NoLine."""
        own = [number for number in self.standing if self.told[number][0] == hand]
        if len(own) == 0:
            raise NoLine(None)
        return self.take_out((own[-1],))

    def take_out(self, numbers):
        """Strikes these lines, which stand, and tells all that went."""
        # The lines that don't stand are left out: they may need what goes without going themselves.
        went = tuple([number for number in goes(self.whole(), numbers) if number in self.standing])
        self.standing = tuple([number for number in self.standing if number not in went])
        return went

    def mark(self, name):
        """Keeps what stands now by this name; NoName."""
        if not is_name(name):
            raise NoName(name)
        self.marks[name] = self.standing

    def come_back(self, name):
        """Lets just the lines of the mark stand again, and tells the way; NoMark."""
        if not is_name(name) or name not in self.marks:
            raise NoMark(name)
        steps = steps_between(self.whole(), self.standing, self.marks[name])
        self.standing = self.marks[name]
        return steps

    def lines(self):
        """All lines told, whether they stand or not."""
        return self.told

    def stand(self):
        """The rising tuple of the lines that stand."""
        return self.standing

    def world(self):
        """The world of the lines that stand."""
        return book_world(self.book())

    def book(self):
        """The book of the lines that stand."""
        return book_of(self.whole(), self.standing)

    def whole(self):
        """The start and all lines, which needn't be a book."""
        return (self.start, self.told)
