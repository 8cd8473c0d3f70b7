"""[10.3]: the desk, line by line."""

import unittest

from allbrought.desks import Desk
from allbrought.errors import (
    BadFloor, BadText, FloorError, Full, IsIn, IsOut, NoDeed, NoEntry, NoLine, NoMoment, NoName, NoneIn, NoNumber, NoRobot,
    NotWellFormed,
)
from allbrought.films import Film, brought, held_then, is_film, loads, merged
from allbrought.floors import Floor
from allbrought.nets import Net, led_by, round_trip, rounds
from allbrought.pictures import drawn
from allbrought.plans import plan_of
from allbrought.robots import Robot
from allbrought.texts import book_text, floor_mark, plan_text
from tests.things import ONE, TWO, TWO_ROWS, odd_things

FLOOR = "floor a H.S|H.S|"
# brings robots and the host to hear one another, for a net called n
HEAR = ["do n post 0", "do n post 1", "do n bring 0", "do n bring 0", "do n serve 0", "do n serve 1", "do n bring 0", "do n bring 0"]
READY = [FLOOR, "net n a", "do n order 0 1", "do n order 1 1", "do n wake 0", "do n wake 1"]


def desk_of(lines):
    desk = Desk()
    for line in lines:
        desk.tell(line)
    return desk


def piped(text):
    return text.replace("\n", "|")


class Case(unittest.TestCase):
    def told(self, desk, *pairs):
        for line, answer in pairs:
            self.assertEqual(desk.tell(line), answer, line)

    def refused(self, desk, line, error, name=None):
        with self.assertRaises(error, msg=repr(line)) as held:
            desk.tell(line)
        self.assertIs(held.exception.__class__, error)
        if name is not None:
            self.assertEqual(held.exception.name, name)
        return held.exception


class OfFloors(Case):
    def test_each(self):
        desk = Desk()
        self.told(desk, (FLOOR, "ok"), ("source a", "H.S|H.S|"), ("mark a", str(floor_mark(TWO_ROWS))), ("barred a", "none"))
        self.told(desk, ("floor abcdefgh HHS|", "ok"), ("barred abcdefgh", "0 0"), ("source abcdefgh", "HHS|"))
        self.told(desk, ("floor z HS#|###|H.S|", "ok"), ("barred z", "0 1"), ("mark z", str(floor_mark(Floor(("HS#", "###", "H.S"))))))

    def test_kept_anew_under_the_same_name(self):
        desk = desk_of([FLOOR, "floor b H|", "net n a"])
        self.told(desk, ("floor a HS|", "ok"), ("source a", "HS|"), ("source b", "H|"), ("view n", "0.S|1.S|"))
        self.refused(desk, "floor a HS", BadText)
        self.refused(desk, "floor a |", BadFloor)
        self.told(desk, ("source a", "HS|"), ("source b", "H|"))

    def test_texts(self):
        desk = Desk()
        for line, error, field, value in [
            ("floor a H", BadText, "line", 1), ("floor a H|x", BadText, "line", 2), ("floor a  ", BadText, "line", 1),
            ("floor a |", BadFloor, "part", 0), ("floor a  H|", BadFloor, "part", 0), ("floor a H |", BadFloor, "part", 0),
            ("floor a .|", BadFloor, "part", "homes"), ("floor a H|" + "H|" * 12, BadFloor, "part", -1), ("floor a H|HH|", BadFloor, "part", 1),
            ("floor a a b c|", BadFloor, "part", 0),
        ]:
            self.assertEqual(getattr(self.refused(desk, line, error), field), value)
        self.refused(desk, "source a", NoName, "a")


class OfNets(Case):
    def test_new_nets(self):
        desk = desk_of([FLOOR])
        self.told(desk, ("net n a", "ok"), ("view n", "0.S|1.S|"), ("bag n", "0"), ("left n", "0"), ("book n", "none"), ("meets n", "none"))
        self.told(desk, ("plan n", "robot 0 0|robot 0 3|"), ("round n", "0"), ("rounds n 9", "1"), ("rounds n 0", "0"))

    def test_entries(self):
        desk = desk_of([FLOOR, "net n a"])
        self.told(desk, ("do n order 0 1", "0"), ("do n order 0 1 1 1 0 0", "1"), ("do n out 1", "2"), ("do n in 1", "3"))
        self.told(desk, ("book n", "order 0 1|order 0 1 1 1 0 0|out 1|in 1|"))
        entries = ONE + [("orders", ((0, 1), (1, 1), (0, 0))), ("out", 1), ("in", 1)]
        net = Net(TWO_ROWS, 0)
        led_by(net, [("add", entry) for entry in entries])
        self.told(desk, ("book n", piped(book_text(net.host().book()))), ("plan n", piped(plan_text(net.host().plan()))))
        self.told(desk, ("left n", str(net.host().left())))

    def test_entries_that_are_refused(self):
        desk = desk_of([FLOOR, "net n a", "do n out 0"])
        for line, error in [
            ("do n out 0", IsOut), ("do n in 1", IsIn), ("do n out 2", NoEntry), ("do n in 999999999", NoEntry), ("do n order 0 2", NoEntry),
            ("do n order" + " 0 1" * 7, NoEntry), ("do n order 999999999 0", NoEntry),
        ]:
            self.refused(desk, line, error)
        self.told(desk, ("book n", "out 0|"), ("do n out 1", "1"))
        self.refused(desk, "do n order 0 1", NoneIn)
        for _ in range(199):
            self.assertNotEqual((desk.tell("do n in 1"), desk.tell("do n out 1")), ("", ""))
        self.refused(desk, "do n in 0", Full)

    def test_deeds(self):
        desk = desk_of([FLOOR, "net n a"])
        self.told(
            desk, ("do n order 0 1", "0"), ("do n wake 0", "ok"), ("do n wake 1", "ok"), ("bag n", "0"), ("do n post 0", "ok"),
            ("do n post 1", "ok"), ("bag n", "2"), ("do n double 0", "ok"), ("do n lose 1", "ok"), ("bag n", "2"), ("do n bring 1", "old"),
            ("do n bring 0", "old"), ("do n serve 0", "ok"), ("do n serve 0", "ok"), ("do n bring 0", "new"), ("do n bring 0", "old"),
            ("may n 0", "yes"), ("may n 1", "no"), ("lacks n 0", "none"), ("lacks n 1", "none"), ("do n begin 0", "ok"), ("may n 0", "no"),
            ("view n", "00S|1.S|"), ("done n 0", "0"), ("do n end 0", "ok"), ("done n 0", "1"), ("view n", "H0S|1.S|"), ("left n", "8"),
            ("do n post 0", "ok"), ("do n bring 0", "new"), ("left n", "7"), ("do n begin 0", "ok"), ("do n cut 0 0", "ok"), ("done n 0", "1"),
            ("do n begin 0", "ok"), ("do n cut 0 1", "ok"), ("done n 0", "2"), ("view n", "H.0|1.S|"), ("do n back", "ok"), ("left n", "8"),
            ("do n begin 0", "ok"), ("do n end 0", "ok"), ("view n", "H.a|1.S|"), ("done n 1", "0"), ("bag n", "0"),
        )

    def test_deeds_that_cannot_be_done(self):
        desk = desk_of(READY)
        kept = [desk.tell(line) for line in ("view n", "bag n", "book n", "done n 0", "left n")]
        for line in [
            "do n wake 0", "do n wake 2", "do n begin 0", "do n end 0", "do n begin 2", "do n post 2", "do n serve 0", "do n bring 0",
            "do n lose 0", "do n double 0", "do n cut 2 0", "do n cut 0 2", "do n cut 999999999 0",
        ]:
            self.refused(desk, line, NoDeed)
        self.assertEqual([desk.tell(line) for line in ("view n", "bag n", "book n", "done n 0", "left n")], kept)

    def test_rounds(self):
        desk = desk_of(READY)
        net = Net(TWO_ROWS, 0)
        led_by(net, [("add", TWO[0]), ("add", TWO[1]), ("wake", 0), ("wake", 1)])
        for most in (0, 2, 3):
            self.told(desk, (f"rounds n {most}", str(rounds(net, most))), ("left n", str(net.host().left())))
        self.told(desk, ("round n", str(round_trip(net))), ("done n 0", str(net.robot(0).done())), ("done n 1", str(net.robot(1).done())))
        self.told(desk, ("rounds n 10000", str(rounds(net, 10000))), ("left n", "0"), ("view n", "0.S|1.S|"), ("round n", "0"))
        for many in (10001, 999999999):
            self.refused(desk, f"rounds n {many}", NoNumber)

    def test_may_lacks_done(self):
        desk = desk_of(READY)
        self.told(desk, ("lacks n 0", "none"), ("may n 1", "no"))
        for line in HEAR + ["do n begin 1", "do n end 1"]:
            desk.tell(line)
        self.told(desk, ("may n 0", "yes"), ("may n 1", "no"), ("lacks n 0", "none"), ("lacks n 1", "0 5"), ("done n 1", "1"))
        other = desk_of([
            "floor w HSH|.S.|.H.|", "net n w", "do n order 1 1", "do n order 0 1", "do n order 1 0", "do n wake 0", "do n wake 1", "do n wake 2",
            "round n",
        ])
        net = Net(Floor(("HSH", ".S.", ".H.")), 0)
        led_by(net, [("add", ("orders", (pair,))) for pair in ((1, 1), (0, 1), (1, 0))] + [("wake", number) for number in range(3)])
        round_trip(net)
        seen = set()
        for _ in range(12):
            for number in range(3):
                pairs = net.robot(number).lacks()
                seen.add(pairs and len(pairs))
                expected = " ".join(f"{robot} {step}" for robot, step in pairs or ()) or "none"
                self.told(other, (f"lacks n {number}", expected), (f"may n {number}", "yes" if net.robot(number).may() else "no"))
            self.told(other, ("round n", str(round_trip(net))))
        self.assertLessEqual({None, 1}, seen)
        for word in ("may", "lacks", "done"):
            self.refused(desk, word + " n 2", NoRobot)
            self.refused(desk_of(READY[:4]), word + " n 0", NoRobot)

    def test_view(self):
        desk = desk_of(["floor b HHH|...|.S.|", "net n b", "do n order 0 0", "do n order 0 0"])
        net = Net(Floor(("HHH", "...", ".S.")), 0)
        led_by(net, [("add", ("orders", ((0, 0),)))] * 2)
        for number in (1, 0):
            desk.tell(f"do n wake {number}")
            net.deed(("wake", number))
            for _ in range(7):
                lots = net.where()
                some = tuple(net.robot(one).load() if one in net.robots() else None for one in range(3))
                self.told(desk, ("view n", piped(drawn(Floor(("HHH", "...", ".S.")), lots, some))), ("meets n", "none"))
                self.told(desk, ("round n", str(round_trip(net))))

    def test_kept_anew_under_the_same_name(self):
        desk = desk_of(READY + ["floor b HS|", "net m a"])
        self.told(desk, ("left n", "14"), ("left m", "0"), ("net n b", "ok"), ("left n", "0"), ("view n", "0S|"), ("view m", "0.S|1.S|"))
        # floors, nets and reels have names of their own
        self.told(desk, ("net a a", "ok"), ("net b a", "ok"), ("film a a 1", "0"), ("source a", "H.S|H.S|"), ("left a", "0"), ("at a", "0"))

    def test_not_well_formed(self):
        desk = desk_of(["floor b HHS|", FLOOR, "net n a", "do n order 0 1"])
        error = self.refused(desk, "net n b", NotWellFormed)
        self.assertEqual((error.who, error.station), (0, 0))
        self.refused(desk, "net m b", NotWellFormed)
        self.told(desk, ("left n", "8"))
        self.refused(desk, "left m", NoName, "m")


class OfReels(Case):
    def test_each(self):
        desk = desk_of(READY + HEAR + ["rounds n 6"])
        net = Net(TWO_ROWS, 0)
        led_by(net, [("add", TWO[0]), ("add", TWO[1]), ("wake", 0), ("wake", 1)])
        rounds(net, 6)
        plan = plan_of(TWO_ROWS, TWO)
        done = (net.robot(0).done(), net.robot(1).done())
        self.assertEqual(done, (6, 1))
        film = merged(plan, done)
        self.assertTrue(is_film(plan, film))
        self.told(desk, ("film f n 4", "14"), ("at f", "0"), ("look f", "0.S|1.S|"), ("brought f", "none"))
        for at, worked in [(14, 14), (3, 3), (6, 2), (6, 0), (13, 1), (0, 0), (9, 1), (11, 2)]:
            self.told(desk, (f"seek f {at}", str(worked)), ("at f", str(at)))
            picture = drawn(TWO_ROWS, held_then(film, at), loads(film, at))
            orders = " ".join(map(str, brought(film, at))) or "none"
            self.told(desk, ("look f", piped(picture)), ("brought f", orders))
        # the film stays as it is when the net goes on
        self.told(desk, ("rounds n 100", "6"), ("seek f 14", "2"), ("brought f", "0"), ("look f", "H.0|H1S|"))
        self.told(desk, ("film f n 500", "28"), ("at f", "0"), ("seek f 28", "28"), ("brought f", "0 1"), ("look f", "0.S|1.S|"))

    def test_robots_that_are_not_there(self):
        desk = desk_of(READY[:4])
        self.told(desk, ("film f n 1", "0"), ("seek f 0", "0"), ("look f", "0.S|1.S|"))
        for line in ["do n wake 1", "round n"]:
            desk.tell(line)
        self.told(desk, ("film f n 1", "2"), ("seek f 1", "1"), ("look f", "0.S|11S|"), ("seek f 2", "1"), ("look f", "0.S|H1S|"))

    def test_loads_are_looked_at(self):
        desk = desk_of(READY + ["rounds n 100", "film f n 7"])
        film = merged(plan_of(TWO_ROWS, TWO), (8, 6))
        self.assertIsInstance(film, Film)
        letters = set()
        for at in range(29):
            desk.tell(f"seek f {at}")
            picture = desk.tell("look f")
            self.assertEqual(picture, piped(drawn(TWO_ROWS, held_then(film, at), loads(film, at))))
            letters |= set(picture)
        self.assertEqual(letters, set("HS.|01ab"))

    def test_no_such_film(self):
        desk = desk_of(READY)
        # no line leads there: so a robot that did steps ahead of all others is placed behind the desk's back
        _, net = desk._shelves["net"]["n"]
        net.deed(("place", Robot(TWO_ROWS, 0, 1, (tuple(TWO), (8, 6), 6, False), None)))
        self.told(desk, ("film f n 3", "none"))
        self.refused(desk, "at f", NoName, "f")
        desk.tell("rounds n 100")
        self.told(desk, ("film f n 3", "28"), ("at f", "0"))

    def test_numbers_and_moments(self):
        desk = desk_of(READY + ["rounds n 3", "film f n 500"])
        self.told(desk, ("seek f 4", "4"))
        for every in (0, 501, 999999999):
            self.refused(desk, f"film f n {every}", NoNumber)
            self.refused(desk, f"film g n {every}", NoNumber)
        self.refused(desk, "at g", NoName, "g")
        for at in (9, 999999999):
            self.refused(desk, f"seek f {at}", NoMoment)
        self.told(desk, ("at f", "4"), ("seek f 8", "4"))


class Lines(Case):
    RIGHT = [
        FLOOR, "source a", "mark a", "barred a", "net n a", "do n order 0 1", "do n order 1 0 0 0", "do n out 0", "do n in 0", "do n wake 0",
        "do n wake 1", "do n post 0", "do n double 0", "do n lose 0", "do n bring 0", "do n serve 0", "do n bring 0", "do n begin 0",
        "do n end 0", "do n cut 0 1", "do n back", "round n", "rounds n 3", "bag n", "left n", "book n", "plan n", "may n 0", "lacks n 0",
        "done n 0", "view n", "meets n", "film f n 3", "seek f 2", "at f", "look f", "brought f",
    ]

    def state(self, desk):
        return [desk.tell(line) for line in (
            "source a", "bag n", "left n", "book n", "view n", "done n 0", "done n 1", "at f", "look f", "brought f",
        )]

    def test_right_lines(self):
        desk = Desk()
        for line in self.RIGHT:
            self.assertIsInstance(desk.tell(line), str)

    def test_no_string_or_a_line_feed(self):
        desk = desk_of(self.RIGHT)
        kept = self.state(desk)
        for thing in odd_things() + [None, 0, ["round n"], ("round", "n"), b"round n"]:
            if not isinstance(thing, str) or thing not in self.RIGHT:
                self.refused(desk, thing, NoLine)
        for line in self.RIGHT:
            for some in (line + "\n", "\n" + line, line.replace(" ", "\n", 1), line.replace(" ", " \n", 1), line + "\n" + line):
                self.refused(desk, some, NoLine)
        self.assertEqual(self.state(desk), kept)

    def test_lines_near_to_right_ones(self):
        desk = desk_of(self.RIGHT)
        kept = self.state(desk)
        for line in self.RIGHT:
            words = line.split(" ")
            some = [" " + line, line.replace(" ", "  ", 1), words[0], " ".join(words[1:]), line.upper(), line.capitalize(), words[0] + " "]
            some += ["x" + line, words[0] + "s" + line[len(words[0]):] if words[0] not in ("round",) else "x"]
            if words[0] != "floor":
                some += [line + " ", line + " 0", line + " n", " ".join(words[:-1]), line + " 0 0 0", line + "|", line + " -"]
                some += [line.replace(" ", "  ")]
            for bad in some:
                if bad not in ("do n order 0 1 0 0 0", "do n order 1 0 0 0 0 0 0"):
                    self.refused(desk, bad, NoLine)
        self.assertEqual(self.state(desk), kept)

    def test_names(self):
        desk = desk_of(self.RIGHT)
        kept = self.state(desk)
        for name in ["", "abcdefghi", "A", "aB", "a1", "1", "a_b", "a-b", "a.b", "a|b", "0", "nN", "a,", "_", "~", "a" * 20000]:
            for line in [
                "floor {} H|", "source {}", "mark {}", "barred {}", "net {} a", "net b {}", "do {} order 0 1", "do {} wake 0", "do {} back",
                "round {}", "rounds {} 3", "bag {}", "left {}", "book {}", "plan {}", "may {} 0", "lacks {} 0", "done {} 0", "view {}", "meets {}",
                "film {} n 3", "film f {} 3", "seek {} 0", "at {}", "look {}", "brought {}",
            ]:
                self.refused(desk, line.format(name), NoLine)
        self.assertEqual(self.state(desk), kept)

    def test_numbers(self):
        desk = desk_of(self.RIGHT)
        kept = self.state(desk)
        for number in ["", "00", "01", "-1", "+1", "1.", "1_0", "0x1", "a", "1234567890", "0000000001", "1000000000", " 1", "1|", "one", "~"]:
            for line in [
                "do n order 0 {}", "do n order {} 0", "do n order 0 0 {} 0", "do n out {}", "do n in {}", "do n wake {}", "do n begin {}",
                "do n end {}", "do n post {}", "do n serve {}", "do n bring {}", "do n lose {}", "do n double {}", "do n cut {} 0",
                "do n cut 0 {}", "rounds n {}", "may n {}", "lacks n {}", "done n {}", "film f n {}", "seek f {}",
            ]:
                self.refused(desk, line.format(number), NoLine)
        self.assertEqual(self.state(desk), kept)

    def test_words_that_are_none(self):
        desk = desk_of(self.RIGHT)
        kept = self.state(desk)
        for line in [
            "", " ", "x", "tell", "floors a H|", "floor", "floor a", "floor a ", "floor  H|", "floor", "net", "net n", "net n a a", "do", "do n", "do n ",
            "do n order", "do n order 0", "do n order 0 1 0", "do n orders 0 1", "do n add 0", "do n spoil 0 0 0", "do n send 0", "do n place 0",
            "do n host", "do n out", "do n out 0 0", "do n in", "do n in 0 1", "do n wake", "do n wake 0 0", "do n begin", "do n cut 0",
            "do n cut 0 0 0", "do n cut", "do n back 0", "do n x 0", "do n 0", "do n  0", "do 0 wake n", "wake n 0", "order n 0 1", "rounds n",
            "round n 0", "bag n 0", "left", "film f n", "film f 3 n", "film f n 3 3", "film f", "seek f", "seek f 0 0", "seek 0 f", "at", "at f 0",
            "kept f", "worked f", "look", "brought", "do n robot 0", "do n round", "copy f", "source", "mark", "barred a a", "do n True", "None",
        ]:
            self.refused(desk, line, NoLine)
        self.assertEqual(self.state(desk), kept)

    def test_no_name(self):
        desk = desk_of(self.RIGHT)
        kept = self.state(desk)
        for line, name in [
            ("source n", "n"), ("mark f", "f"), ("barred abcdefgh", "abcdefgh"), ("net m n", "n"), ("net a z", "z"), ("do a wake 0", "a"),
            ("do f order 0 9", "f"), ("do z back", "z"), ("round f", "f"), ("rounds a 999999999", "a"), ("bag a", "a"), ("left f", "f"),
            ("book x", "x"), ("plan x", "x"), ("may x 99", "x"), ("lacks x 99", "x"), ("done x 99", "x"), ("view x", "x"), ("meets x", "x"),
            ("film f a 0", "a"), ("film g f 3", "f"), ("film n x 999", "x"), ("seek n 999", "n"), ("at n", "n"), ("look a", "a"),
            ("brought n", "n"), ("net z z", "z"), ("film z z 3", "z"),
        ]:
            self.refused(desk, line, NoName, name)
        for line in self.RIGHT[1:]:
            self.refused(Desk(), line, NoName)
        self.assertEqual(self.state(desk), kept)

    def test_line_then_name_then_the_rest(self):
        desk = desk_of([FLOOR])
        self.refused(desk, "net n b c", NoLine)
        self.refused(desk, "do n wake x", NoLine)
        self.refused(desk, "do n wake 99", NoName, "n")
        desk.tell("net n a")
        self.refused(desk, "do n wake 99", NoDeed)
        self.refused(desk, "seek f x", NoLine)
        self.refused(desk, "seek f 99", NoName, "f")
        self.refused(desk, "film f n 0", NoNumber)

    def test_desks_go_on_apart_and_are_equal_to_nothing_else(self):
        one, other = desk_of(self.RIGHT), desk_of(self.RIGHT)
        kept = self.state(other)
        self.assertEqual(self.state(one), kept)
        for line in ("rounds n 9", "floor a H|", "seek f 0", "net n a"):
            one.tell(line)
        self.assertEqual(self.state(other), kept)
        for thing in odd_things() + [other]:
            self.assertIs(one == thing, False)

    def test_just_errors_of_the_package(self):
        desk = desk_of(self.RIGHT)
        words = ["a", "n", "f", "0", "1", "do", "order", "wake", "begin", "cut", "round", "seek", "film", "net", "floor", "", "view", "H|", "9"]
        for one in words:
            for two in words:
                for three in words:
                    for line in (one, one + " " + two, one + " " + two + " " + three, one + " n " + two + " " + three):
                        try:
                            self.assertIsInstance(desk.tell(line), str)
                        except FloorError:
                            pass


if __name__ == "__main__":
    unittest.main()
