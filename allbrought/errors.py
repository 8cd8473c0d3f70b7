"""The errors of the package; each keeps what it was made with."""


class FloorError(ValueError):
    """What all errors of this package are."""


class BadFloor(FloorError):
    """Rows that make no floor: -1, the number of a row, or "homes"."""

    def __init__(self, part):
        self.part = part


class NoCell(FloorError):
    """A thing that is no cell, or none that is open to the robot."""


class NoRobot(FloorError):
    """A thing that is the number of no robot."""


class NoStation(FloorError):
    """A thing that is the number of no station, or no pair of such numbers."""


class NotWellFormed(FloorError):
    """A floor on which a robot has no way to a station."""

    def __init__(self, who, station):
        self.who = who
        self.station = station


class NoEntry(FloorError):
    """A thing that is no entry of a book."""


class NoneIn(FloorError):
    """Orders while no robot is in."""


class Full(FloorError):
    """More orders or entries than a book takes."""


class IsOut(FloorError):
    """A robot that is out already."""


class IsIn(FloorError):
    """A robot that is in already."""


class BadEntry(FloorError):
    """The first of several entries that is none, or is refused; -1 for no list or tuple."""

    def __init__(self, index):
        self.index = index


class NoTick(FloorError):
    """A thing that is no tick."""


class NoTracks(FloorError):
    """A thing that is no tuple of a track for each robot."""


class NoStep(FloorError):
    """A thing that names no step of a plan."""


class NotClosed(FloorError):
    """A thing that is no closed tuple of what is done."""


class NotAmid(FloorError):
    """A thing that is no lot of robots that may do their next steps."""


class TooEarly(FloorError):
    """The first robot that may not do its next step; -1 for no list or tuple."""

    def __init__(self, index):
        self.index = index


class NoTimes(FloorError):
    """A thing that is no tuple of times for all steps."""


class NoNumber(FloorError):
    """A thing that is no number, or none within the limits."""


class NoRow(FloorError):
    """A thing that is no row of bytes."""


class NoPlace(FloorError):
    """A thing that is no place of a row."""


class BadRow(FloorError):
    """A row in which something wrong stands at a place."""

    def __init__(self, place):
        self.place = place


class BadChange(FloorError):
    """A change in which something wrong stands at a place."""

    def __init__(self, place):
        self.place = place


class NoLetter(FloorError):
    """A thing that is no letter."""


class NoBook(FloorError):
    """A thing that is no book of the floor."""


class NoPast(FloorError):
    """A thing that can't be the past of a robot."""


class NoEye(FloorError):
    """A thing that can't be what the eye of a robot tells."""


class NotYet(FloorError):
    """A step that must not begin yet."""


class NotBegun(FloorError):
    """A step that is not begun."""


class NoDeed(FloorError):
    """A thing that is no deed, or none that can be done."""


class BadDeeds(FloorError):
    """The first of several deeds that can't be done; -1 for no list or tuple."""

    def __init__(self, index):
        self.index = index


class NoCut(FloorError):
    """A thing that does not tell how blocks are cut."""


class NoBlocks(FloorError):
    """A thing that is no list or tuple of rows."""


class NoDisk(FloorError):
    """A thing that is no disk."""


class OtherMatch(FloorError):
    """A disk that belongs to another match."""


class BadFilm(FloorError):
    """The first event of a film that is none; -1 for no tuple of events."""

    def __init__(self, index):
        self.index = index


class NoMoment(FloorError):
    """A thing that is no moment of a film."""


class NoCounts(FloorError):
    """A thing that does not count steps of each robot."""


class BadText(FloorError):
    """A text in which a line is wrong; 0 for no string."""

    def __init__(self, line):
        self.line = line


class NoPlan(FloorError):
    """A text of a plan that is no plan of the entries."""


class NoHeld(FloorError):
    """A thing that does not tell what robots hold."""


class NoLoads(FloorError):
    """A thing that does not tell what robots carry."""


class NoPicture(FloorError):
    """A thing that is no picture."""


class Unlike(FloorError):
    """Two pictures that are not of one size."""


class NoChanges(FloorError):
    """A thing that is no changes of a picture."""


class NoLine(FloorError):
    """A thing that is no line of a desk."""


class NoName(FloorError):
    """A name under which nothing of its sort is kept."""

    def __init__(self, name):
        self.name = name
