"""[95] to [98]: what a desk keeps, its deeds and answers, and its errors."""

import random
import unittest

from fromplaces.commands import is_command
from fromplaces.desk import Desk
from fromplaces.errors import (
    InvalidClaim, InvalidClock, InvalidCommand, InvalidMakers, InvalidMany, InvalidPosition, LabelTaken, NameTaken, NotAll, NotDivided,
    NothingToRedo, NothingToUndo, TooMany, UnknownLabel, UnknownName, UnlikeClocks,
)
from fromplaces.ratios import Ratio
from fromplaces.rooms import Room
from desks import START, DeskCase, SlowDesk, all_of, started
from support import NO_KIND, lists_in, ratios, told_ratios

HALF = Ratio(1, 2)


class Deeds(DeskCase):

    def test_example(self):
        desk = Desk()
        answers = desk.do_all(
            "poly f 0,0,1", "poly g 0,-1,0,1", "makers m f g", "poly h 0,-1,0,0,0,1", "claim k made m h", "claim a all m", "gaps m", "clock c m", "show c", "counts m")
        self.assertEqual(answers, ["-", "-", "-", "-", "k true", "a false", "1", "-", "-1,0,1", "2 3"])

    def test_polys(self):
        desk = Desk()
        self.says(
            desk, ("poly f 0,0,1,0", "-"), ("show f", "0,0,1"), ("poly nought -", "-"), ("show nought", "-"), ("poly zero 0,0", "-"), ("show zero", "-"),
            ("degree zero", "-1"), ("poly g 1/2,-3", "-"), ("show g", "1/2,-3"), ("sum s f g", "-"), ("show s", "1/2,-3,1"), ("less l f g", "-"), ("show l", "-1/2,3,1"),
            ("times p f g", "-"), ("show p", "0,0,1/2,-3"), ("put q f g", "-"), ("show q", "1/4,-3,9"), ("slope d q", "-"), ("show d", "-3,18"), ("degree q", "2"),
            ("worth g 1/6", "0"), ("worth g -2/3", "5/2"), ("worth nought 7", "0"),
        )
        self.assertEqual(desk["q"], ratios(Ratio(1, 4), -3, 9))
        self.assertEqual([desk["nought"], desk["zero"]], [[], []])

    def test_makers(self):
        desk = started()
        self.says(
            desk, ("show m", "0,0,1; 0,-1,0,1"), ("base m", "0,0,1; 0,-1,0,1"), ("counts m", "2 3"), ("common m", "1"), ("gaps m", "1"), ("even m", "yes"), ("meets m 1", "-1,0,1"),
            ("meets m 1/3", "-1/3,1"), ("weight m 0", "1"), ("stop m 0", "no"), ("clock h m", "-"), ("show h", "-1,0,1"), ("gaps n", "-"), ("clock one n", "-"), ("show one", "1"),
            ("inner i m", "-"), ("show i", "0,1"), ("poly e 5,3,0,0,1", "-"),
        )
        desk = started()
        self.says(
            desk, ("left l m t", "-"), ("show l", "0,1"), ("makers v f f", "-"), ("inner i v", "-"), ("show i", "0,0,1"), ("common v", "2"), ("counts v", "2"), ("base v", "0,0,1"),
            ("drop v", "-"), ("poly x 0,0,0,1", "-"),
        )
        desk.do_all("drop i", "makers cusp f x")
        self.says(desk, ("stop cusp 0", "yes"), ("weight cusp 0", "2"), ("even cusp", "yes"))
        self.assertEqual(desk["cusp"], told_ratios([[0, 0, 1], [0, 0, 0, 1]]))

    def test_changes_of_makers(self):
        desk = started()
        self.says(
            desk, ("add m t", "a true"), ("show m", "0,0,1; 0,-1,0,1; 0,1"), ("take m 0", "-"), ("show m", "0,-1,0,1; 0,1"), ("take m 1", "a false, k false"),
            ("show m", "0,-1,0,1"), ("add m f", "k true"), ("show m", "0,-1,0,1; 0,0,1"), ("drop f", "k gone"), ("show m", "0,-1,0,1; 0,0,1"),
        )

    def test_changes_of_polys(self):
        desk = started()
        self.says(
            desk, ("change f 0 -1/2", "-"), ("show f", "-1/2,0,1"), ("change f 2 0", "-"), ("show f", "-1/2"), ("change f 0 0", "-"), ("show f", "-"), ("change f 48 3", "k gone"),
            ("degree f", "48"), ("change f 48 0", "k true"), ("show f", "-"), ("change f 1 1", "k false"), ("show f", "0,1"), ("show m", "0,0,1; 0,-1,0,1"),
        )

    def test_rooms(self):
        desk = started()
        self.says(
            desk, ("show r", "-1,0,1 | 1"), ("ties r", "1"), ("size r", "1"), ("heads r", "0"), ("holds r f", "yes"), ("holds r t", "no"), ("show q", "-1,0,1 | 0,1; 1"), ("ties q", "0"),
            ("heads q", "0 1"), ("ring x r", "-"), ("show x", "-1,0,1"), ("joined s r q", "-"), ("show s", "-1,0,1 | 0,1; 1"), ("shared u r q", "-"), ("show u", "-1,0,1 | 1"),
            ("same u r", "yes"), ("same s r", "no"), ("drop s", "-"), ("drop u", "-"), ("drop x", "-"), ("poly d -1,1", "-"), ("led l r d", "-"), ("show l", "-1,1 | 1"),
            ("drop l", "-"), ("roomof v m c", "-"), ("same v r", "yes"), ("drop v", "-"), ("poly z 0,0,0,2", "-"), ("room w z f t t f", "-"), ("show w", "0,0,0,1 | 0,0,1; 0,1; 1"),
        )
        self.assertEqual(desk["r"], Room([-1, 0, 1], []))

    def test_questions(self):
        desk = started()
        self.says(
            desk, ("names", "c f g m n q r t"), ("states", "a false, k true, w true"), ("state k", "true"), ("state a", "false"), ("claimed k", "made m f"), ("claimed a", "all m"),
            ("same f f", "yes"), ("same f g", "no"), ("same m n", "no"), ("same m m", "yes"), ("claim j joint m -1/2 1", "j false"), ("claimed j", "joint m -1/2 1"),
            ("claim v met m 19", "v true"), ("claimed v", "met m 19"), ("drop m", "a gone, j gone, k gone, v gone, w gone"), ("state k", "gone"), ("claimed k", "made m f"),
            ("states", "a gone, j gone, k gone, v gone, w gone"),
        )
        desk = Desk()
        self.says(desk, ("names", "-"), ("states", "-"))

    def test_makers_and_polys_are_kept_apart(self):
        # A poly that is nought, and makers of one polynomial: equal only to things of their kind.
        desk = started()
        desk.do_all("makers o f", "poly p 0,0,1", "makers v p")
        self.says(desk, ("same o v", "yes"), ("same p f", "yes"), ("same o m", "no"))
        self.refuses(desk, UnknownName, {"value": "o"}, "same f o")
        self.refuses(desk, UnknownName, {"value": "f"}, "same o f")
        self.refuses(desk, UnknownName, {"value": "m"}, "same r m")

    def test_names_do_not_hang_on_others(self):
        desk = started()
        desk.do_all("change f 0 5", "drop g")
        self.assertEqual(desk["m"], told_ratios([[0, 0, 1], [0, -1, 0, 1]]))
        self.says(desk, ("show r", "-1,0,1 | 1"))


class Reading(DeskCase):

    def test_attributes(self):
        desk = started()
        self.assertEqual([desk.names, desk.labels, len(desk)], [sorted("fgtcmnrq"), ["a", "k", "w"], len(START)])
        self.assertEqual([Desk().names, Desk().labels, len(Desk())], [[], [], 0])
        self.assertIs(type(len(desk)), int)
        for found in [desk.names, desk.labels, desk.lines()]:
            found.append("x")
        self.assertEqual([desk.names, desk.labels, desk.lines()], [sorted("fgtcmnrq"), ["a", "k", "w"], START])

    def test_items(self):
        desk = started()
        self.assertEqual(desk["f"], ratios(0, 0, 1))
        self.assertEqual(desk["m"], told_ratios([[0, 0, 1], [0, -1, 0, 1]]))
        self.assertIs(type(desk["r"]), Room)
        before = all_of(desk)
        for name in ("f", "m"):
            for one in lists_in(desk[name]):
                one.append(7)
        self.assertEqual(all_of(desk), before)
        for value in NO_KIND + [5, HALF, [], ["f"], ("f",), "x", "F", "k", "f ", b"f", desk]:
            with self.assertRaises(UnknownName) as held:
                desk[value]
            self.alike(held.exception.value, value)

    def test_in(self):
        desk = started()
        for value, wanted in [("f", True), ("m", True), ("r", True), ("k", False), ("x", False), ("", False), ("F", False)]:
            self.assertIs(value in desk, wanted)
        for value in [one for one in NO_KIND if not isinstance(one, str)] + [5, HALF, [], ["f"], ("f",), b"f", desk, Room([0, 1], [])]:
            self.assertIs(value in desk, False)
        desk.do("drop f")
        self.assertIs("f" in desk, False)

    def test_claims(self):
        desk = started()
        desk.do_all("claim j joint m 1 -1/2", "claim v gap m 3", "claim b beyond m n")
        makers, others = told_ratios([[0, 0, 1], [0, -1, 0, 1]]), told_ratios([[0, 1]])
        for label, wanted in [
            ("k", ("made", makers, ratios(0, 0, 1))), ("a", ("all", makers)), ("w", ("within", makers, others)), ("j", ("joint", makers, Ratio(1), Ratio(-1, 2))),
            ("v", ("gap", makers, 3)), ("b", ("beyond", makers, others)),
        ]:
            found = self.unchanged(desk.claim_of, label)
            self.assertEqual(repr(found), repr(wanted))
            self.assertEqual(desk.claim_of(label=label), wanted)
            for one in lists_in(found):
                one.append(5)
            self.assertEqual(desk.claim_of(label), wanted)
        desk.do("add m t")
        self.assertEqual(desk.claim_of("a"), ("all", makers + [ratios(0, 1)]))
        desk.do("drop m")
        self.assertIsNone(desk.claim_of("a"))
        for value in NO_KIND + [5, HALF, [], ["k"], ("k",), "x", "f", "K", b"k"]:
            self.fails(UnknownLabel, {"value": value}, desk.claim_of, value)
            self.fails(UnknownLabel, {"value": value}, desk.claim_of, label=value)

    def test_not_iterated(self):
        with self.assertRaises(TypeError):
            list(started())


class Errors(DeskCase):

    def test_commands(self):
        desk = started()
        desk.do("undo")
        for value in NO_KIND + [5, HALF, [], ["undo"], ("undo",), "", "undo ", "poly x 1,", "poly X 1", "made m f", "show", "poly f", "gaps", "add m", "claim f m"]:
            self.refuses(desk, InvalidCommand, {"value": value}, value)

    def test_names(self):
        desk = started()
        for command, name in [
            ("poly f 1", "f"), ("poly m 1", "m"), ("poly r 1", "r"), ("makers m f", "m"), ("makers f x y", "f"), ("sum f x y", "f"), ("less g f g", "g"), ("times t x x", "t"), ("put r x y", "r"),
            ("slope c x", "c"), ("left m x y", "m"), ("inner n x", "n"), ("clock c x", "c"), ("room r x y", "r"), ("roomof q x y", "q"), ("joined r x y", "r"), ("shared f x y", "f"),
            ("led m x y", "m"), ("ring r x", "r"),
        ]:
            self.refuses(desk, NameTaken, {"name": name}, command)
        for command, name in [
            ("sum x y f", "y"), ("sum x f y", "y"), ("sum x m r", "m"), ("less x f r", "r"), ("times x y z", "y"), ("put x f m", "m"), ("slope x m", "m"), ("slope x x", "x"), ("left x f m", "f"),
            ("left x m r", "r"), ("inner x f", "f"), ("clock x r", "r"), ("makers x f g m", "m"), ("makers x y z", "y"), ("room x m f", "m"), ("room x c f m g", "m"), ("roomof x f m", "f"),
            ("roomof x m m", "m"), ("joined x f r", "f"), ("joined x r m", "m"), ("shared x r y", "y"), ("led x c r", "c"), ("led x r r", "r"), ("ring x c", "c"), ("add f m", "f"), ("add m r", "r"),
            ("add x y", "x"), ("take f 0", "f"), ("take x 0", "x"), ("change m 0 1", "m"), ("change x 99 1", "x"), ("drop x", "x"), ("drop k", "k"), ("show x", "x"), ("show k", "k"), ("degree m", "m"),
            ("worth r 1", "r"), ("base f", "f"), ("counts x", "x"), ("common r", "r"), ("gaps f", "f"), ("even c", "c"), ("meets f 1", "f"), ("weight r 1", "r"), ("stop x 1", "x"), ("ties m", "m"),
            ("size f", "f"), ("heads c", "c"), ("holds f r", "f"), ("holds r m", "m"), ("same x y", "x"), ("same f x", "x"), ("same f m", "m"), ("same m r", "r"), ("same x f", "x"),
            ("claim j made f m", "f"), ("claim j made m r", "r"), ("claim j kept m x", "x"), ("claim j all f", "f"), ("claim j within m f", "f"), ("claim j beyond x y", "x"), ("claim j joint r 1 1", "r"),
            ("claim j met f 99", "f"), ("claim j gap x 0", "x"),
        ]:
            self.refuses(desk, UnknownName, {"value": name}, command)

    def test_labels(self):
        desk = started()
        for command in ["claim k made m f", "claim a tied x", "claim w met m 99", "claim k made x y"]:
            self.refuses(desk, LabelTaken, {"label": command[6]}, command)
        for command in ["state x", "state f", "claimed x", "claimed m", "forget x", "forget r"]:
            self.refuses(desk, UnknownLabel, {"value": command[-1]}, command)
        # A label may be a name, too.
        self.says(desk, ("claim f made m f", "f true"), ("poly k 1", "-"), ("forget f", "-"), ("show f", "0,0,1"))

    def test_nothing_to_undo(self):
        desk = Desk()
        self.refuses(desk, NothingToUndo, {}, "undo")
        self.refuses(desk, NothingToRedo, {}, "redo")
        desk.do_all("poly f 1", "undo")
        self.refuses(desk, NothingToUndo, {}, "undo")
        desk.do("redo")
        self.refuses(desk, NothingToRedo, {}, "redo")

    def test_errors_of_functions(self):
        desk = started()
        desk.do_all("poly x 0,0,0,0,0,0,0,0,0,1", "drop n", "drop q")
        five, none = told_ratios([[0, 0, 1], [0, -1, 0, 1], [0, 1], [0, 1], [-1, 0, 1]]), []
        desk.do_all("add m t", "add m t")
        for command, error, attributes in [
            ("makers z x", InvalidMakers, {"value": told_ratios([[0] * 9 + [1]])}), ("makers z f x g", InvalidMakers, {"value": told_ratios([[0, 0, 1], [0] * 9 + [1], [0, -1, 0, 1]])}),
            ("add m c", InvalidMakers, {"value": five}), ("take m 4", InvalidPosition, {"value": 4}), ("take m 99", InvalidPosition, {"value": 99}), ("change f 49 1", InvalidMany, {"value": 49}),
            ("change f 99 0", InvalidMany, {"value": 99}), ("room z x", InvalidCommand, {"value": "room z x"}),
        ]:
            self.refuses(desk, error, attributes, command)
        desk = started()
        desk.do_all("poly big 0,0,0,0,0,0,0,0,0,0,0,0,1", "times u big big", "times v u big", "drop n", "poly one 1")
        for command, error, attributes in [
            ("times z v u", TooMany, {"what": "degree", "limit": 48}), ("put z u big", TooMany, {"what": "degree", "limit": 48}),
            ("left z m v", TooMany, {"what": "degree", "limit": 24}), ("room z v f", InvalidClock, {"value": ratios(*[0] * 36, 1)}), ("room z one f", InvalidClock, {"value": ratios(1)}),
            ("roomof z m u", InvalidClock, {"value": ratios(*[0] * 24, 1)}), ("led z r one", InvalidClock, {"value": ratios(1)}), ("led z r f", NotDivided, {}), ("led z r g", NotDivided, {}),
        ]:
            self.refuses(desk, error, attributes, command)
        desk.do_all("drop one", "drop v", "drop u", "room z f t", "makers e f", "makers o c")
        for command, error, attributes in [
            ("joined y r z", UnlikeClocks, {}), ("shared y z r", UnlikeClocks, {}), ("clock y e", NotAll, {}), ("gaps e", NotAll, {}), ("even e", NotAll, {}), ("meets e 1", NotAll, {}),
            ("weight e 1", NotAll, {}), ("stop e 1", NotAll, {}), ("take e 0", InvalidMakers, {"value": none}), ("take e 1", InvalidPosition, {"value": 1}),
        ]:
            self.refuses(desk, error, attributes, command)
        desk = Desk()
        desk.do_all("poly f 0,0,0,0,0,1", "poly g 0,0,0,0,0,0,0,1", "makers m f g")
        for command in ["clock c m", "gaps m", "even m", "meets m 1", "weight m 1", "stop m 0"]:
            self.refuses(desk, TooMany, {"what": "gaps", "limit": 10}, command)

    def test_invalid_claims(self):
        desk = started()
        makers = told_ratios([[0, 0, 1], [0, -1, 0, 1]])
        desk.do_all("change t 24 1", "claim j made m t", "change t 25 1")
        for command, claim in [
            ("claim x made m t", ("made", makers, ratios(0, 1, *[0] * 22, 1, 1))), ("claim x kept m t", ("kept", makers, ratios(0, 1, *[0] * 22, 1, 1))),
            ("claim x met m 0", ("met", makers, 0)), ("claim x gap m 20", ("gap", makers, 20)), ("claim x gap m 99", ("gap", makers, 99)),
        ]:
            self.refuses(desk, InvalidClaim, {"value": claim}, command)

    def test_what_errors_hold_is_new(self):
        desk = started()
        before = all_of(desk)
        for command in ["makers z c t f", "room z t c", "take n 0", "claim x met m 0", "makers z f c c c", "led z r f", "add n c"]:
            try:
                with_error = desk.attempt("poly z 1", "drop z", command)
                self.assertEqual(len(with_error), 3)
            except Exception as error:  # whatever it is, what it holds is not the desk's
                for one in lists_in(getattr(error.__cause__, "value", None)):
                    one.append(3)
            self.assertEqual(all_of(desk), before)

    def test_too_many_names_and_labels(self):
        desk = started()
        desk.do_all(*[f"poly p{n} {n}" for n in range(4)], *[f"claim c{n} met m {n + 1}" for n in range(9)])
        self.assertEqual([len(desk.names), len(desk.labels)], [12, 12])
        for command in ["poly x 1", "sum x f g", "makers x f", "room x c f", "ring x r", "clock x m"]:
            self.refuses(desk, TooMany, {"what": "names", "limit": 12}, command)
        for command in ["claim x all m", "claim x made m f"]:
            self.refuses(desk, TooMany, {"what": "labels", "limit": 12}, command)
        # Errors of the functions are ahead of these, and what stays under its name is no name more.
        self.refuses(desk, InvalidMakers, {"value": [ratios(3)]}, "makers x p3")
        self.refuses(desk, InvalidClaim, {"value": ("met", desk["m"], 0)}, "claim x met m 0")
        self.refuses(desk, InvalidClock, {"value": ratios(3)}, "room x p3 f")
        self.refuses(desk, NameTaken, {"name": "f"}, "poly f 1")
        self.says(desk, ("add m t", "a true, c0 true"), ("change f 0 1", "-"), ("drop p0", "-"), ("poly x 1", "-"), ("forget c0", "-"), ("claim x all m", "x true"))
        self.refuses(desk, TooMany, {"what": "names", "limit": 12}, "poly y 1")
        self.refuses(desk, TooMany, {"what": "labels", "limit": 12}, "claim y all m")

    def test_too_many_deeds(self):
        desk = Desk()
        desk.do("poly f 1")
        for n in range(299):
            desk.do(f"change f 0 {n}")
        self.assertEqual([len(desk), len(desk.lines())], [300, 300])
        for command in ["change f 0 1", "poly g 1", "drop f", "change f 1 0"]:
            self.refuses(desk, TooMany, {"what": "deeds", "limit": 300}, command)
        self.refuses(desk, UnknownName, {"value": "g"}, "drop g")
        self.refuses(desk, InvalidMany, {"value": 49}, "change f 49 1")
        self.says(desk, ("undo", "change f 0 298"), ("change f 0 7", "-"))
        self.assertEqual(len(desk), 300)
        self.refuses(desk, TooMany, {"what": "deeds", "limit": 300}, "drop f")
        self.says(desk, ("undo", "change f 0 7"), ("redo", "change f 0 7"), ("show f", "7"))
        self.assertEqual(Desk.again(desk.lines()).lines(), desk.lines())

    def test_names_and_labels_ahead_of_deeds(self):
        desk = started()
        desk.do_all(*[f"poly p{n} {n}" for n in range(4)], *[f"claim c{n} met m {n + 1}" for n in range(9)])
        while len(desk) < 300:
            desk.do("change f 0 1")
        self.refuses(desk, TooMany, {"what": "names", "limit": 12}, "poly x 1")
        self.refuses(desk, TooMany, {"what": "labels", "limit": 12}, "claim x all m")
        self.refuses(desk, TooMany, {"what": "deeds", "limit": 300}, "drop f")


class AgainstASlowDesk(DeskCase):

    def test_any_commands(self):
        for seed in range(40):
            source = random.Random(950 + seed)
            desk, slow = Desk(), SlowDesk()
            failed, done = 0, 0
            for at in range(150):
                command = START[at] if seed % 3 and at < len(START) else any_command(source)
                self.assertIs(is_command(command), True, command)
                try:
                    wanted, error = slow.do(command), None
                except Exception as raised:  # both desks fail alike
                    wanted, error = None, raised
                if error is None:
                    self.assertEqual([command, desk.do(command)], [command, wanted])
                    done += 1
                else:
                    self.fails(type(error), vars(error), desk.do, command)
                    failed += 1
                self.assertEqual(desk.lines(), [line for line, _ in slow.done])
                self.assertEqual(desk.names, sorted(slow.things))
                self.assertEqual(desk.do("states"), slow.do("states"))
            for name in desk.names:
                self.assertEqual(desk[name], slow.things[name][1])
            self.assertEqual(repr(desk.do("names")), repr(slow.do("names")))
            self.assertGreater(done, 10)


def any_command(source):
    """A command of any word, with names that are kept now and then."""
    def name():
        return source.choice(["f", "g", "t", "c", "h", "x"])

    def makers():
        return source.choice(["m", "n", "m", "n", "f"])

    def room():
        return source.choice(["r", "q", "s", "f"])

    def any_name():
        return source.choice([name, makers, room])()

    def number():
        return source.choice(["0", "1", "-1", "2", "1/2", "-3/2"])

    def poly():
        return source.choice(["-", "0,1", "0,0,1", "0,-1,0,1", "-1,0,1", "1,1", "0,0,0,1", "1/2,3", "7", "0,0,0,0,1,1", "2,0"])

    def label():
        return source.choice("abkw")

    claims = [
        lambda: f"made {makers()} {name()}", lambda: f"kept {makers()} {name()}", lambda: f"all {makers()}", lambda: f"tied {makers()}",
        lambda: f"within {makers()} {makers()}", lambda: f"beyond {makers()} {makers()}", lambda: f"joint {makers()} {number()} {number()}",
        lambda: f"apart {makers()} {number()} {number()}", lambda: f"met {makers()} {source.randint(0, 20)}", lambda: f"gap {makers()} {source.randint(1, 5)}",
    ]
    usual = [
        lambda: f"poly {name()} {poly()}", lambda: f"makers {makers()} {name()} {name()}", lambda: f"add {makers()} {name()}", lambda: f"take {makers()} {source.randint(0, 2)}",
        lambda: f"change {name()} {source.choice([0, 1, 2, 3, 25, 49])} {number()}", lambda: f"drop {any_name()}", lambda: f"claim {label()} {source.choice(claims)()}", lambda: "undo",
        lambda: "redo",
    ]
    seldom = [
        lambda: f"{source.choice(['sum', 'less', 'times', 'put'])} {name()} {name()} {name()}", lambda: f"slope {name()} {name()}", lambda: f"left {name()} {makers()} {name()}",
        lambda: f"{source.choice(['inner', 'clock'])} {name()} {makers()}", lambda: f"room {room()} {name()} {name()}", lambda: f"roomof {room()} {makers()} {name()}",
        lambda: f"{source.choice(['joined', 'shared'])} {room()} {room()} {room()}", lambda: f"led {room()} {room()} {name()}", lambda: f"ring {name()} {room()}",
        lambda: f"makers {makers()} {name()}", lambda: f"forget {label()}", lambda: f"{source.choice(['state', 'claimed'])} {label()}", lambda: "names", lambda: f"show {any_name()}",
        lambda: f"degree {name()}", lambda: f"worth {name()} {number()}", lambda: f"{source.choice(['base', 'counts', 'common', 'gaps', 'even'])} {makers()}",
        lambda: f"{source.choice(['meets', 'weight', 'stop'])} {makers()} {number()}", lambda: f"{source.choice(['ties', 'size', 'heads'])} {room()}",
        lambda: f"holds {room()} {name()}", lambda: f"same {any_name()} {any_name()}",
    ]
    return source.choice(usual if source.random() < 0.6 else seldom)()


if __name__ == "__main__":
    unittest.main()
