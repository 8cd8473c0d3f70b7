"""The net: a host, its robots, and the letters between them, with all that can go wrong on the way."""

from allbrought.errors import BadDeeds, FloorError, NoDeed, NoNumber, NoRobot
from allbrought.floors import homes
from allbrought.hosts import Host, is_host_of
from allbrought.kinds import is_number, is_number_below
from allbrought.robots import Robot, eye_of, is_robot_of, number_of
from allbrought.rows import BYTES, is_row

TO_HOST = -1
MOST_ROUNDS = 10000


class Net:
    """A host, robots by their numbers, and a bag of letters: pairs (to, row)."""

    def __init__(self, floor, match):
        self._host = Host(floor, match, None)
        self._floor = floor
        self._match = match
        self._robots = {}
        self._bag = []

    def host(self):
        """The host itself, no copy."""
        return self._host

    def robot(self, number):
        """The robot of this number itself, no copy."""
        if not is_number(number) or number not in self._robots:
            raise NoRobot()
        return self._robots[number]

    def robots(self):
        """The ascending tuple of the numbers of the robots that are there."""
        return tuple(sorted(self._robots))

    def bag(self):
        """The list of the letters that are on their way."""
        return list(self._bag)

    def where(self):
        """The tuple, for each robot of the floor, of the cells in which its body can be."""
        return tuple([
            self._robots[number].cells() if number in self._robots else (home,)
            for number, home in enumerate(homes(self._floor))
        ])

    def meets(self):
        """The ascending list of the pairs of robots that can be in one cell."""
        lots = self.where()
        return [
            (robot, other)
            for robot in range(len(lots))
            for other in range(robot + 1, len(lots))
            if any([cell in lots[other] for cell in lots[robot]])
        ]

    def deed(self, thing):
        """Do a deed; return what it returns."""
        if not isinstance(thing, tuple) or thing == () or not isinstance(thing[0], str):
            raise NoDeed()
        word = thing[0]
        if word not in DEEDS or len(thing) != LENGTHS[word]:
            raise NoDeed()
        action = DEEDS[word]
        try:
            return action(self, thing[1:])
        except FloorError:
            raise NoDeed() from None


# In all of these what is the tuple of the things behind the word of the deed; each raises a FloorError, and has
# changed nothing then, if it can't be done.


def _add(net, what):
    return net._host.add(what[0])


def _wake(net, what):
    number = what[0]
    # a thing that is the number of no robot is refused here
    robot = Robot(net._floor, net._match, number, None, None)
    if number in net._robots:
        raise NoDeed()
    net._robots[number] = robot


def _begin(net, what):
    net.robot(what[0]).begin()


def _end(net, what):
    net.robot(what[0]).end()


def _post(net, what):
    net._bag.append((TO_HOST, net.robot(what[0]).say()))


def _serve(net, what):
    net._bag.append((what[0], net._host.letter(what[0])))


def _check_letter(net, number):
    if not is_number_below(number, len(net._bag)):
        raise NoDeed()


def _bring(net, what):
    _check_letter(net, what[0])
    to, row = net._bag.pop(what[0])
    if to == TO_HOST:
        return net._host.hear(row)
    return net._robots[to].hear(row) if to in net._robots else None


def _lose(net, what):
    _check_letter(net, what[0])
    net._bag.pop(what[0])


def _double(net, what):
    _check_letter(net, what[0])
    net._bag.append(net._bag[what[0]])


def _spoil(net, what):
    number, at, byte = what
    _check_letter(net, number)
    to, row = net._bag[number]
    if not is_number_below(at, len(row)) or not is_number_below(byte, BYTES):
        raise NoDeed()
    net._bag[number] = (to, row[:at] + (byte,) + row[at + 1:])


def _send(net, what):
    to, row = what
    is_robot = is_number_below(to, len(homes(net._floor)))
    if not (is_robot or to == TO_HOST) or not is_row(row):
        raise NoDeed()
    net._bag.append((to, row))


def _cut(net, what):
    number, side = what
    robot = net.robot(number)
    if not is_number_below(side, 2):
        raise NoDeed()
    net._robots[number] = Robot(net._floor, net._match, number, robot.past(), eye_of(robot, side))


def _back(net, what):
    net._host = Host(net._floor, net._match, net._host.book())


def _place(net, what):
    robot = what[0]
    if not is_robot_of(net._floor, net._match, robot):
        raise NoDeed()
    net._robots[number_of(robot)] = robot


def _put_host(net, what):
    if not is_host_of(net._floor, net._match, what[0]):
        raise NoDeed()
    net._host = what[0]


DEEDS = {
    "add": _add, "wake": _wake, "begin": _begin, "end": _end, "post": _post, "serve": _serve, "bring": _bring,
    "lose": _lose, "double": _double, "spoil": _spoil, "send": _send, "cut": _cut, "back": _back, "place": _place,
    "host": _put_host,
}
# of how many things, its word counted, a deed is a tuple
LENGTHS = {
    "add": 2, "wake": 2, "begin": 2, "end": 2, "post": 2, "serve": 2, "bring": 2, "lose": 2, "double": 2, "spoil": 4,
    "send": 3, "cut": 3, "back": 1, "place": 2, "host": 2,
}


def led_by(net, deeds):
    """Do these deeds, one behind the other; return the list of what they returned."""
    if not isinstance(deeds, (list, tuple)):
        raise BadDeeds(-1)
    told = []
    for index, thing in enumerate(deeds):
        try:
            told.append(net.deed(thing))
        except NoDeed:
            raise BadDeeds(index) from None
    return told


def round_trip(net):
    """Have all robots and the host hear one another, and each robot do a step if it may; how many steps were done."""
    for number in net.robots():
        net.deed(("post", number))
    _bring_all(net)
    # the host may take the letter of a robot that was placed for none, and does not know it then
    for number in net.robots():
        if number in net.host().known():
            net.deed(("serve", number))
    _bring_all(net)
    return len([number for number in net.robots() if _goes_on(net.robot(number))])


def _bring_all(net):
    while net._bag:
        net.deed(("bring", 0))


def _goes_on(robot):
    """End a step that is begun, else begin and end one if it may; whether there was one."""
    _, _, _, begun = robot.past()
    if not begun:
        if not robot.may():
            return False
        robot.begin()
    robot.end()
    return True


def rounds(net, most):
    """Do round trips until one does no step and all robots heard the book, or so many; how many there were."""
    if not is_number_below(most, MOST_ROUNDS + 1):
        raise NoNumber()
    many = 0
    while many < most:
        steps = round_trip(net)
        many += 1
        if steps == 0 and _is_heard(net):
            break
    return many


def _is_heard(net):
    """Whether all robots heard all entries of the book."""
    entries = tuple(net.host().book().entries())
    heard = [net.robot(number).past()[0] for number in net.robots()]
    return all([some[:len(entries)] == entries for some in heard])
