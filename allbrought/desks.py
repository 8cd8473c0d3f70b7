"""The desk: floors, nets and reels that are kept under names and worked by lines."""

from allbrought.errors import NoLine, NoName
from allbrought.films import brought, loads, merged
from allbrought.floors import barred
from allbrought.nets import Net, round_trip, rounds
from allbrought.pictures import drawn
from allbrought.reels import Reel
from allbrought.texts import book_text, floor_mark, floor_text, number_in, plan_text, read_floor

LETTERS = "abcdefghijklmnopqrstuvwxyz"
MOST_LETTERS = 8
# what stands behind the first word of a line: "name" is one that is new, "floor", "net", "reel" are those of kept ones
FORMS = {
    "floor": ("name", "text"), "source": ("floor",), "mark": ("floor",), "barred": ("floor",), "net": ("name", "floor"),
    "round": ("net",), "rounds": ("net", "number"), "bag": ("net",), "left": ("net",), "book": ("net",),
    "plan": ("net",), "may": ("net", "number"), "lacks": ("net", "number"), "done": ("net", "number"), "view": ("net",),
    "meets": ("net",), "film": ("name", "net", "number"), "seek": ("reel", "number"), "at": ("reel",),
    "look": ("reel",), "brought": ("reel",),
}
# how many numbers stand behind the word of a deed
DEEDS = {
    "out": 1, "in": 1, "wake": 1, "begin": 1, "end": 1, "post": 1, "serve": 1, "bring": 1, "lose": 1, "double": 1,
    "cut": 2, "back": 0,
}


class Desk:
    """What is kept under names, by its sort."""

    def __init__(self):
        # a net is kept as a pair with its floor, a reel as a triple with its floor and film
        self._shelves = {"floor": {}, "net": {}, "reel": {}}

    def tell(self, line):
        """Do what a line says; return what there is to say of it."""
        if not isinstance(line, str) or "\n" in line:
            raise NoLine()
        parts = _parts_of(line)
        kinds = _kinds_of(parts)
        if len(kinds) != len(parts):
            raise NoLine()
        what = [_read(kind, part) for kind, part in zip(kinds, parts)]
        if None in what:
            raise NoLine()
        found = [self._find(kind, thing) for kind, thing in zip(kinds, what)]
        action = ACTIONS[parts[0]]
        return action(self._shelves, found[1:])

    def _find(self, kind, thing):
        """What is kept under a name, if the thing is one of that kind, else the thing itself."""
        if kind not in self._shelves:
            return thing
        if thing not in self._shelves[kind]:
            raise NoName(thing)
        return self._shelves[kind][thing]


def _parts_of(line):
    """The list of the words of a line, but of the text at the end of a line of a floor in one piece."""
    return line.split(" ", 2) if line.startswith("floor ") else line.split(" ")


def _kinds_of(parts):
    """The tuple of the kinds that parts of such a line are of, () for no form."""
    if parts[0] in FORMS:
        return ("word",) + FORMS[parts[0]]
    if parts[0] != "do" or len(parts) < 3:
        return ()
    many = len(parts) - 3
    is_order = parts[2] == "order" and many > 0 and many % 2 == 0
    if is_order or DEEDS.get(parts[2], -1) == many:
        return ("word", "net", "word") + ("number",) * many
    return ()


def _read(kind, part):
    """What a part of a line says that is of this kind, None for no such part."""
    if kind == "word":
        return part
    if kind == "number":
        return number_in(part)
    if kind == "text":
        return part.replace("|", "\n") if part != "" else None
    is_name = 1 <= len(part) <= MOST_LETTERS and all([sign in LETTERS for sign in part])
    return part if is_name else None


def _piped(text):
    return text.replace("\n", "|") if text != "" else "none"


def _listed(numbers):
    """The numbers with blanks between them, "none" for None and for none at all."""
    return " ".join([str(number) for number in numbers]) if numbers else "none"


def _told(thing):
    """What is said of what a deed returned."""
    if thing is None:
        return "ok"
    if isinstance(thing, bool):
        return "yes" if thing else "no"
    return str(thing)


def _floor(shelves, found):
    shelves["floor"][found[0]] = read_floor(found[1])
    return "ok"


def _source(_, found):
    return _piped(floor_text(found[0]))


def _mark(_, found):
    return str(floor_mark(found[0]))


def _barred(_, found):
    return _listed(barred(found[0]))


def _net(shelves, found):
    name, floor = found
    shelves["net"][name] = (floor, Net(floor, 0))
    return "ok"


def _do(_, found):
    net = found[0][1]
    word = found[1]
    numbers = tuple(found[2:])
    if word == "order":
        return _told(net.host().add(("orders", tuple(zip(numbers[::2], numbers[1::2])))))
    if word in ("out", "in"):
        return _told(net.host().add((word, numbers[0])))
    return _told(net.deed((word,) + numbers))


def _round(_, found):
    return str(round_trip(found[0][1]))


def _rounds(_, found):
    return str(rounds(found[0][1], found[1]))


def _bag(_, found):
    return str(len(found[0][1].bag()))


def _left(_, found):
    return str(found[0][1].host().left())


def _book(_, found):
    return _piped(book_text(found[0][1].host().book()))


def _plan(_, found):
    return _piped(plan_text(found[0][1].host().plan()))


def _may(_, found):
    return _told(found[0][1].robot(found[1]).may())


def _lacks(_, found):
    return _listed_pairs(found[0][1].robot(found[1]).lacks())


def _listed_pairs(pairs):
    return _listed([number for pair in pairs for number in pair] if pairs else None)


def _done(_, found):
    return str(found[0][1].robot(found[1]).done())


def _view(_, found):
    floor, net = found[0]
    lots = net.where()
    some = [net.robot(number).load() if number in net.robots() else None for number in range(len(lots))]
    return _piped(drawn(floor, lots, tuple(some)))


def _meets(_, found):
    return _listed_pairs(found[0][1].meets())


def _film(shelves, found):
    name, (floor, net), every = found
    plan = net.host().plan()
    done = [net.robot(number).done() if number in net.robots() else 0 for number in range(len(plan.tracks))]
    film = merged(plan, tuple(done))
    if film is None:
        return "none"
    shelves["reel"][name] = (floor, film, Reel(film, every))
    return str(len(film.events))


def _seek(_, found):
    reel = found[0][2]
    reel.seek(found[1])
    return str(reel.worked())


def _at(_, found):
    return str(found[0][2].stands())


def _look(_, found):
    floor, film, reel = found[0]
    return _piped(drawn(floor, reel.cells_now(), loads(film, reel.stands())))


def _brought(_, found):
    _, film, reel = found[0]
    return _listed(brought(film, reel.stands()))


ACTIONS = {
    "floor": _floor, "source": _source, "mark": _mark, "barred": _barred, "net": _net, "do": _do, "round": _round,
    "rounds": _rounds, "bag": _bag, "left": _left, "book": _book, "plan": _plan, "may": _may, "lacks": _lacks,
    "done": _done, "view": _view, "meets": _meets, "film": _film, "seek": _seek, "at": _at, "look": _look,
    "brought": _brought,
}
