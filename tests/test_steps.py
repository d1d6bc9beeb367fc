"""Promises [2] (i), [63], [64]: deeds as steps, taken back and done again, marks, and numbers that are kept."""

import unittest

from tautrounds.errors import (
    BadDeed, BadImages, BadLive, BadName, BadNumber, BadRound, NoMark, NotNow, NotSimple, RoundError, TooMany,
)
from tautrounds.linked import crossings, own_crossings
from tautrounds.live import Live
from tests.helpers import (
    HOLES, ODD_VALUES, TORUS, Counterfeit, chance_deed, chance_of, chance_skin, check_error, live_of,
)
from tests.test_changes import A_CHANGE
from tests.test_live import NO_NAMES, check_refused, everything

NO_DEEDS = [
    (), ("draw",), ("draw", "x"), ("draw", "x", (0,), 0), ("wipe",), ("wipe", "x", 0), ("swap", 0), ("swap", 0, 0, 0),
    ("settle", 0), ("slide", 0), ("rename",), ("change",), ("change", (0,), (1,)), ("twist", "x"), ("undo",),
    ("do", []), ["settle"], "settle", (None,), (0,), ("Settle",), (b"settle",), (Counterfeit(),), ("mark", "x"),
    ("settle ",), ([],),
] + ODD_VALUES


class Asked:
    """A cross that notes what it is asked; answers tells what it does then."""

    def __init__(self):
        self.calls = []
        self.answer = None

    def cross(self, skin, one, other):
        self.calls.append((skin.row, one, other))
        if self.answer is not None:
            return self.answer()
        return own_crossings(skin, one) if other is None else crossings(skin, one, other)

    def taken(self):
        calls, self.calls = self.calls, []
        return calls


def drawn(skin, deeds):
    asked = Asked()
    live = Live(skin, asked.cross)
    for deed in deeds:
        live.do([deed])
    return live, asked


THREE = [("draw", "x", (0,)), ("draw", "y", (2,)), ("draw", "z", (0, 2))]


class KeptTest(unittest.TestCase):
    def test_asked_once_and_not_ahead(self):
        live, asked = drawn(TORUS, THREE)
        live.crossed()
        live.settle()
        live.twist("x", 1)
        live.undo()
        self.assertEqual(asked.taken(), [])
        row = TORUS.row
        self.assertEqual(live.number("y"), 0)
        self.assertEqual(asked.taken(), [(row, (2,), None)])
        self.assertEqual((live.number("z", "x"), live.number("x", "z")), (1, 1))
        self.assertEqual(asked.taken(), [(row, (0,), (0, 2))])
        self.assertEqual(live.fewest(), 3)
        self.assertEqual(asked.taken(), [
            (row, (0,), None), (row, (0,), (2,)), (row, (2,), (0, 2)), (row, (0, 2), None),
        ])
        self.assertEqual((live.fewest(), live.over()), (3, live.crossed() - 3))
        self.assertEqual(asked.taken(), [])

    def test_over_asks_as_fewest(self):
        live, asked = drawn(TORUS, THREE[:2])
        live.over()
        self.assertEqual(asked.taken(), [
            (TORUS.row, (0,), None), (TORUS.row, (0,), (2,)), (TORUS.row, (2,), None),
        ])

    def test_asked_of_rounds_as_they_are_then(self):
        live, asked = drawn(TORUS, THREE)
        live.twist("x", 1)
        live.slide(0, 1)
        live.rename([2, 3, 0, 1])
        live.number("z", "y")
        self.assertEqual(asked.taken(), [(live.skin.row, live.loop("y"), live.loop("z"))])
        live.undo()
        live.number("z", "y")
        self.assertEqual(asked.taken(), [])

    def test_kept_behind_all_deeds(self):
        live, asked = drawn(TORUS, THREE)
        wanted = live.fewest()
        asked.taken()
        for act, parts in (
            ("slide", (0, 1)), ("twist", ("z", -1)), ("change", (A_CHANGE,)), ("swap", (0, 0)),
            ("rename", ([2, 3, 0, 1],)), ("settle", ()), ("undo", ()), ("undo", ()), ("redo", ()), ("mark", ("here",)),
            ("undo", ()), ("to", ("here",)),
        ):
            getattr(live, act)(*parts)
            self.assertEqual(live.fewest(), wanted)
        self.assertEqual(asked.taken(), [])

    def test_bearers(self):
        live, asked = drawn(TORUS, THREE)
        live.fewest()
        asked.taken()
        live.wipe("y")
        self.assertEqual(live.fewest(), 1)
        self.assertEqual(asked.taken(), [])
        live.draw("y", (2,))
        row = TORUS.row
        live.fewest()
        # The new y was drawn in behind z: all of its numbers are asked anew.
        self.assertEqual(asked.taken(), [(row, (0,), (2,)), (row, (0, 2), (2,)), (row, (2,), None)])
        live.undo()
        live.undo()
        live.fewest()
        self.assertEqual((asked.taken(), live.names), ([], ("x", "y", "z")))
        live.redo()
        live.redo()
        live.fewest()
        self.assertEqual((asked.taken(), live.names), ([], ("x", "z", "y")))
        live.undo()
        live.draw("y", (2,))
        live.number("y")
        self.assertEqual(asked.taken(), [(row, (2,), None)])
        live.undo()
        live.undo()
        live.number("y", "z")
        self.assertEqual(asked.taken(), [])

    def test_a_draw_done_again_is_the_same_bearer(self):
        live, asked = drawn(TORUS, [])
        live.draw("x", (0,))
        live.number("x")
        live.undo()
        live.redo()
        live.number("x")
        self.assertEqual(len(asked.taken()), 1)
        live.undo()
        live.draw("x", (0,))
        live.number("x")
        self.assertEqual(len(asked.taken()), 1)
        live.do([("wipe", "x"), ("draw", "x", (0,)), ("draw", "y", (0,)), ("wipe", "x"), ("draw", "x", (2,))])
        live.fewest()
        self.assertEqual(asked.taken(), [(TORUS.row, (0,), None), (TORUS.row, (0,), (2,)), (TORUS.row, (2,), None)])

    def test_refused_do_makes_no_bearers(self):
        live, asked = drawn(TORUS, THREE[:1])
        check_error(self, BadName, None, live.do, [("draw", "y", (2,)), ("draw", "y", (2,))])
        live.draw("y", (2,))
        self.assertEqual(live.fewest(), 1)
        self.assertEqual(len(asked.taken()), 3)

    def test_what_cross_tells(self):
        live, asked = drawn(TORUS, THREE[:2])
        asked.answer = lambda: 10 ** 30
        self.assertEqual(live.number("x", "y"), 10 ** 30)
        asked.answer = lambda: 0
        self.assertEqual((live.number("x"), live.number("y")), (0, 0))
        self.assertEqual(live.fewest(), 10 ** 30)
        self.assertEqual(live.over(), 1 - 10 ** 30)

    def test_a_cross_that_raises(self):
        live, asked = drawn(TORUS, THREE)

        def fails():
            if len(asked.calls) == 3:
                raise KeyError("third")
            return 7

        asked.answer = fails
        before = everything(live)
        self.assertRaises(KeyError, live.fewest)
        self.assertEqual([call[1:] for call in asked.calls], [((0,), None), ((0,), (2,)), ((0,), (0, 2))])
        self.assertEqual(everything(live), before)
        # What was answered ahead of it stays kept; that asking is asked again.
        self.assertEqual((live.number("x"), live.number("y", "x")), (7, 7))
        self.assertEqual(len(asked.calls), 3)
        asked.answer = lambda: 5
        self.assertEqual(live.fewest(), 7 + 7 + 5 + 5 + 5 + 5)
        self.assertEqual([call[1:] for call in asked.calls[3:]], [
            ((0,), (0, 2)), ((2,), None), ((2,), (0, 2)), ((0, 2), None),
        ])

    def test_a_cross_that_raises_errors_of_the_package(self):
        live, asked = drawn(TORUS, THREE)

        def fails():
            raise TooMany(3)

        asked.answer = fails
        for act, parts in ((live.number, ["x"]), (live.number, ["x", "y"]), (live.fewest, []), (live.over, [])):
            check_error(self, TooMany, ("most", 3), act, *parts)
        asked.taken()
        asked.answer = None
        live.number("x")
        self.assertEqual(len(asked.taken()), 1)

    def test_a_cross_that_tells_no_number(self):
        for thing in ODD_VALUES + [-1, -(10 ** 20), [1], (1,), Counterfeit()]:
            live, asked = drawn(TORUS, THREE)
            asked.answer = lambda: thing
            before = everything(live)
            for act, parts in ((live.number, ["x"]), (live.number, ["z", "y"]), (live.fewest, []), (live.over, [])):
                check_error(self, BadLive, ("part", "cross"), act, *parts)
            self.assertEqual(everything(live), before)
            asked.taken()
            asked.answer = None
            self.assertEqual(live.number("x"), 0)
            self.assertEqual(len(asked.taken()), 1)

    def test_copies_ask_again(self):
        live, asked = drawn(TORUS, THREE)
        live.number("x")
        other = live.copy()
        asked.taken()
        other.number("x")
        self.assertEqual(asked.taken(), [])
        for one in (live, other):
            one.number("x", "y")
            one.draw("w", (2,))
            one.number("w")
            self.assertEqual(len(asked.taken()), 2)
        for one in (live, other, live.copy(), other.copy()):
            one.number("x", "y")
            one.number("w")
        self.assertEqual(asked.taken(), [])

    def test_twist_does_not_ask(self):
        live, asked = drawn(TORUS, [("draw", "x", (0,)), ("draw", "y", (0, 0))])
        live.twist("x", 1)
        check_error(self, NotSimple, None, live.twist, "y", 1)
        self.assertEqual(asked.taken(), [])
        live.draw("z", (0,))
        self.assertTrue(live != live_of(TORUS, []))
        live.mark("here")
        live.marks()
        live.steps()
        live.copy()
        self.assertEqual(asked.taken(), [])

    def test_kept_without_cross(self):
        live = live_of(HOLES, [("draw", "x", (0, 3)), ("draw", "y", (0, 2))])
        self.assertEqual((live.fewest(), live.number("x"), live.number("y", "x")), (1, 1, 0))
        live.wipe("x")
        self.assertEqual(live.fewest(), 0)
        live.draw("x", (0, 0, 0))
        self.assertEqual((live.number("x"), live.fewest()), (2, 2))


class StepsTest(unittest.TestCase):
    def test_bad_deeds(self):
        live = live_of(TORUS, THREE[:1])
        live.draw("y", (2,))
        live.undo()
        for deed in NO_DEEDS:
            check_refused(self, live, BadDeed, None, live.do, [deed])
            # Ahead of all that is done: what is refused by itself, too.
            check_refused(self, live, BadDeed, None, live.do, [("draw", "x", None), deed])
        one = ("settle",)
        for deeds in ODD_VALUES + [[], (), "settle", one, ("draw", "x", (0,)), {one: 0}, iter([one]), {one}]:
            check_refused(self, live, BadDeed, None, live.do, deeds)
        check_refused(self, live, BadName, None, live.do, [("draw", None, None)])
        check_refused(self, live, BadRound, None, live.do, (("draw", "z", None),))
        live.redo()

    def test_do_is_one_step(self):
        live = Live(TORUS)
        deeds = THREE[:2] + [("rename", [2, 3, 0, 1]), ("change", list(A_CHANGE)), ("settle",)]
        self.assertIs(live.do(deeds), None)
        told = live.steps()
        self.assertEqual(told, [(
            THREE[0], THREE[1], ("rename", (2, 3, 0, 1)), ("change", tuple(A_CHANGE)), ("settle",),
        )])
        self.assertEqual((type(told), type(told[0])), (list, tuple))
        self.assertEqual((type(told[0][2][1]), type(told[0][3][1])), (tuple, tuple))
        deeds[2][1].clear()
        deeds[3][1].clear()
        deeds.clear()
        self.assertEqual(live.steps(), told)
        live.steps().clear()
        self.assertEqual(live.steps(), told)
        live.undo()
        self.assertEqual((live, live.steps()), (Live(TORUS), []))
        live.redo()
        self.assertEqual(live.steps(), told)
        live.do(deeds=(("wipe", "x"),))
        live.settle()
        self.assertEqual(live.steps(), told + [(("wipe", "x"),), (("settle",),)])

    def test_refused_do_changes_nothing(self):
        live = live_of(TORUS, THREE)
        live.number("x")
        live.mark("here")
        live.undo()
        live.mark("back")
        for last, error in (
            (("draw", "x", (0,)), BadName), (("draw", "w", (1, 0)), BadRound), (("twist", "w", 1), BadName),
            (("swap", 0, 99), BadNumber), (("rename", (0,)), BadNumber), (("change", ()), BadImages),
        ):
            before = everything(live)
            with self.assertRaises(error):
                live.do([("settle",), ("wipe", "y"), ("draw", "v", (2,)), last])
            self.assertEqual(everything(live), before)
            live.redo()
            self.assertEqual(live.marks(), {"back": 2, "here": 3})
            live.undo()

    def test_undo_and_redo(self):
        live = Live(TORUS)
        check_error(self, NotNow, None, live.undo)
        check_error(self, NotNow, None, live.redo)
        seen = [everything(live)]
        for deed in THREE + [("twist", "x", 1), ("slide", 0, 1), ("wipe", "y"), ("settle",)]:
            live.do([deed])
            seen.append(everything(live))
        check_error(self, NotNow, None, live.redo)
        for at in range(len(seen) - 2, -1, -1):
            self.assertIs(live.undo(), None)
            self.assertEqual(everything(live), seen[at])
        check_error(self, NotNow, None, live.undo)
        for at in range(1, len(seen)):
            self.assertIs(live.redo(), None)
            self.assertEqual(everything(live), seen[at])
        live.undo()
        live.undo()
        live.settle()
        check_error(self, NotNow, None, live.redo)

    def test_marks(self):
        live = Live(TORUS)
        self.assertIs(live.mark("z"), None)
        for deed in THREE:
            live.do([deed])
        live.mark("b")
        live.mark(name="a")
        live.undo()
        live.mark("c")
        self.assertEqual(list(live.marks().items()), [("a", 3), ("b", 3), ("c", 2), ("z", 0)])
        self.assertIs(live.to("b"), None)
        self.assertEqual(live.names, ("x", "y", "z"))
        live.to("z")
        self.assertEqual(live.names, ())
        live.to(name="c")
        self.assertEqual(live.names, ("x", "y"))
        live.mark("a")
        self.assertEqual(live.marks(), {"a": 2, "b": 3, "c": 2, "z": 0})
        live.to("b")
        live.to("a")
        live.settle()
        self.assertEqual(live.marks(), {"a": 2, "c": 2, "z": 0})
        check_error(self, NoMark, ("name", "b"), live.to, "b")
        live.undo()
        live.undo()
        self.assertEqual(live.marks(), {"a": 2, "c": 2, "z": 0})
        live.wipe("x")
        self.assertEqual(live.marks(), {"z": 0})
        live.marks()["z"] = 9
        self.assertEqual(live.marks(), {"z": 0})

    def test_no_marks(self):
        live = live_of(TORUS, THREE)
        live.mark("x")
        live.undo()
        for name in ["y", "abcdefghi", "X", 5, (0,), -1, True, "", None, 1.5]:
            check_error(self, NoMark, ("name", name), live.to, name)
        for name in NO_NAMES:
            with self.assertRaises(NoMark) as caught:
                live.to(name)
            self.assertIs(caught.exception.name, name)
        self.assertEqual(live.names, ("x", "y"))
        live.mark("y")
        live.mark("abcdefgh")
        for name in NO_NAMES:
            check_refused(self, live, BadName, None, live.mark, name)

    def test_as_new_behind_any_course(self):
        chance = chance_of(380)
        done = 0
        for bands in (1, 2, 2, 3, 4, 6):
            for _ in range(4):
                live = Live(chance_skin(chance, bands))
                for _ in range(40):
                    live = self.one_move(chance, live)
                    done += len(live.steps())
                    new = live_of(live.first, [deed for step in live.steps() for deed in step])
                    self.assertEqual(live, new)
                    self.assertEqual((live.fewest(), live.over()), (new.fewest(), new.over()))
                    self.assertTrue(all(0 <= place for place in live.marks().values()))
        self.assertGreater(done, 1000)

    def one_move(self, chance, live):
        """Does, or tries to do, something; the live skin with which one goes on."""
        move = chance.choice(["deed"] * 5 + ["do", "do", "undo", "redo", "mark", "to", "copy"])
        before = everything(live)
        try:
            if move == "deed":
                deed = chance_deed(chance, live)
                getattr(live, deed[0])(*deed[1:])
            elif move == "do":
                live.do([chance_deed(chance, live) for _ in range(chance.randint(1, 3))])
            elif move == "undo":
                live.undo()
                self.check_again(live, "redo", "undo", before)
            elif move == "redo":
                live.redo()
                self.check_again(live, "undo", "redo", before)
            elif move == "copy":
                old, live = live, live.copy()
                old.settle()
            else:
                getattr(live, move)(chance.choice("abc"))
        except RoundError:
            self.assertEqual(everything(live), before)
        return live

    def check_again(self, live, back, there, before):
        """That undo and redo behind one another change nothing."""
        now = everything(live)
        getattr(live, back)()
        self.assertEqual(everything(live), before)
        getattr(live, there)()
        self.assertEqual(everything(live), now)


if __name__ == "__main__":
    unittest.main()
