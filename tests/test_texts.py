"""[43] to [45]: texts of kinds, trees, racks, things, steps, polynomials and verdicts, told and read again."""

import unittest

from boughswap.decide import verdict_of
from boughswap.errors import NoRack, NoText
from boughswap.kinds import Kind
from boughswap.texts import (
    kind_text, poly_text, rack_text, read_kind, read_poly, read_rack, read_step, read_steps, read_thing, read_tree,
    read_verdict, step_text, steps_text, thing_text, tree_text, verdict_text,
)
from helping import (
    ALL_MAKERS, FIVE, GREAT, GREATS, LINES, TIP_FORK, Checks, Forest, no_racks, no_wholes, some_polys, tip_fork,
)
from some_racks import alike_pairs, more_kinds, racks_of

SIXTY = "1" + "0" * 59
SIXTY_ONE = "1" + "0" * 60

# What writes no number, of any sort.
NO_NUMBERS = [
    "", " ", "-", "--1", "-0", "00", "01", "-01", "007", "+1", "+0", "1 ", " 1", "1.0", "1.", "1e3", "1_000", "0x1",
    "1,0", "one", "a", "1a", "a1", SIXTY_ONE, "-" + SIXTY_ONE, "9" * 5000, "\u0661", "1\u0661", "\u00b2", "\uff11",
    "\u2212" "1", "1\n", "\n1", "\t1", "1\t", "1\r", "1\u00a0", "\u2003" "1", "- 1", "1-", "1/1", "1;", "(1)", "None",
    "True",
]


def no_texts():
    return [thing for thing in no_wholes() if not isinstance(thing, str)] + [0, 1, -1, GREAT]


def otherwise(text):
    """Texts with one sign left out, put in, or exchanged."""
    signs = "01-+ ,(/)\n\tab;\u0661"
    for at in range(len(text) + 1):
        yield text[:at] + text[at + 1:]
        for sign in signs:
            yield text[:at] + sign + text[at:]
            yield text[:at] + sign + text[at + 1:]


class Texts(Checks):

    def check_read(self, read, write, text, *ahead):
        """Each text that is near by writes itself when it's read, or is refused; what is no text is refused."""
        thing = read(*ahead, text)
        self.tells(text, write(*ahead, thing))
        for other in otherwise(text):
            try:
                found = read(*ahead, other)
            except NoText as refusal:
                self.assertIs(NoText, refusal.__class__)
            else:
                self.tells(other, write(*ahead, found))

    def check_odd(self, read, *ahead):
        for thing in no_texts():
            with self.subTest(repr(thing)):
                self.refused(NoText, read, *ahead, thing)
                self.refused(NoText, read, *ahead, text=thing)


class KindTest(Texts):

    def test_told_and_read_again(self):
        self.tells_both("tip 0, fork 2", kind_text, kind=tip_fork())
        for kind in more_kinds():
            text = kind_text(kind)
            self.tells(", ".join([name + " " + str(many) for name, many in kind.makers()]), text)
            self.assertTrue(read_kind(text=text) == kind)
            self.tells(kind.makers(), read_kind(text).makers())

    def test_near_by(self):
        for text in ("tip 0, fork 2", "a 4, b 0", "abcdefgh 3, x 0, y 1"):
            self.check_read(read_kind, kind_text, text)

    def test_no_kinds(self):
        for text in [
            "", "tip 0", "tip 0, fork 1", "tip 1, fork 2", "tip 0, tip 2", "tip 0, fork 5", "tip 0, fork -2",
            "a 0, b 0, c 0, d 0, e 0, f 2", "Tip 0, fork 2", "t1p 0, fork 2", "abcdefghi 0, fork 2", " 0, fork 2",
            "tip 0,fork 2", "tip 0,  fork 2", "tip  0, fork 2", "tip 0, fork 2,", "tip 0, fork 2, ", " tip 0, fork 2",
            "tip 0, fork 2 ", "tip 0 , fork 2", "tip 0; fork 2", "tip\t0, fork 2", "tip 0\nfork 2", "tip 0, fork 2\n",
            "tip 00, fork 2", "tip 0, fork 02", "tip 0, fork +2", "tip -0, fork 2", "tip 0, fork two", "tip 0, fork",
            "tip 0, fork \u0662", "t\u00efp 0, fork 2", "0 tip, 2 fork", "tip 0, fork 2 3", "tip, fork", "-", ",", ", ",
            "tip 0, fork 2, fork 3", "tip 0, fork " + SIXTY_ONE, "a 0, " * 4000 + "b 2",
        ]:
            with self.subTest(text[:60]):
                self.refused_both(NoText, read_kind, text=text)
        self.check_odd(read_kind)


class TreeTest(Texts):

    def test_told_and_read_again(self):
        kind = tip_fork()
        self.tells_both("fork(tip,fork(tip,tip))", tree_text, kind=kind, tree=(1, 0, 1, 0, 0))
        self.tells_both((1, 0, 1, 0, 0), read_tree, kind=kind, text="fork(tip,fork(tip,tip))")
        five = Kind(list(FIVE))
        self.tells("four(none,one(none),two(none,none),three(none,none,none))",
                   tree_text(five, (4, 0, 1, 0, 2, 0, 0, 3, 0, 0, 0)))
        for makers in ALL_MAKERS:
            kind = Kind(list(makers))
            forest = Forest(makers)
            texts = {}
            for size in range(6):
                for tree in forest.trees(size):
                    text = tree_text(kind, tree)
                    texts[text] = tree
                    self.tells(tree, read_tree(kind, text))
            self.tells(sum([len(forest.trees(size)) for size in range(6)]), len(texts))

    def test_deep_and_broad(self):
        kind = tip_fork()
        lines = Kind(list(LINES))
        for one, tree in ((kind, (1,) * 50 + (0,) * 51), (kind, (1, 0) * 50 + (0,)), (lines, (0,) * 99 + (2,)),
                          (lines, (0,) * 3000 + (2,)), (kind, (1, 0) * 3000 + (0,)), (kind, (1,) * 2000 + (0,) * 2001)):
            text = self.quick(tree_text, one, tree)
            self.tells(tree, self.quick(read_tree, one, text))
        self.tells("line(" * 99 + "dot" + ")" * 99, tree_text(lines, (0,) * 99 + (2,)))

    def test_near_by(self):
        for text in ("tip", "fork(tip,fork(tip,tip))", "fork(fork(tip,tip),tip)"):
            self.check_read(read_tree, tree_text, text, tip_fork())
        one = Kind([("a", 0), ("b", 2), ("ab", 1), ("ba", 0)])
        for text in ("a", "b(a,ba)", "ab(b(a,a))"):
            self.check_read(read_tree, tree_text, text, one)

    def test_no_trees(self):
        kind = tip_fork()
        for text in [
            "", "fork", "fork()", "fork(tip)", "fork(tip,tip,tip)", "fork(tip,)", "fork(,tip)", "fork(,)", "tip()",
            "tip(tip)", "tip,tip", "tip tip", "fork(tip, tip)", "fork( tip,tip)", "fork (tip,tip)", " tip", "tip ",
            "fork(tip,tip", "fork(tip,tip))", "fork((tip,tip))", "(tip)", "((", "fork)tip,tip(", "fork[tip,tip]",
            "fork(tip,leaf)", "dot", "line(dot)", "Tip", "TIP", "t", "tipp", "0", "1(0,0)", "fork(0,0)", "(1, 0, 0)",
            "tip\n", "fork(tip,\ntip)", "tip\t", "t\u0131p", "\uff54ip", "fork(tip\uff0ctip)", "forktip,tip", "-",
            "fork(tip,tip)tip", "fork(tip,fork(tip)),tip", "fork(tip(,tip)", "fork,tip,tip", ",", ")", "fork(" * 4000,
            "fork(" * 3000 + "tip" + ",tip)" * 2999, "fork(tip;tip)", "fork((tip),tip)",
        ]:
            with self.subTest(text[:60]):
                self.refused_both(NoText, read_tree, kind=kind, text=text)
        self.check_odd(read_tree, kind)

    def test_another_kinds_trees(self):
        text = tree_text(Kind(list(LINES)), (1, 2, 0, 2, 2))
        self.tells("tri(dot,line(dot),dot)", text)
        self.refused(NoText, read_tree, tip_fork(), text)
        # The same names with other numbers of trees within.
        self.refused(NoText, read_tree, Kind([("tip", 0), ("fork", 3)]), "fork(tip,tip)")
        self.tells((0, 1, 1), read_tree(Kind([("fork", 2), ("tip", 0)]), "fork(tip,tip)"))


class RackTest(Texts):

    def test_told_and_read_again(self):
        for rack, text in (((), "-"), ((0,), "0"), ((0, 2), "0 2"), ((200, 17, 0, 1), "200 17 0 1")):
            self.tells_both(text, rack_text, rack=rack)
            self.tells_both(rack, read_rack, text=text)
        for rack in ((0,) * 4000, (200,) * 4000, tuple(range(201))):
            self.tells(rack, self.quick(read_rack, rack_text(rack)))

    def test_near_by(self):
        for text in ("-", "0", "0 2", "12 0 200"):
            self.check_read(read_rack, rack_text, text)

    def test_no_racks(self):
        many = " ".join(["0"] * 4001)
        for text in NO_NUMBERS + [
            "201", "-1", "0 -1", SIXTY, "0 201", many, "- 0", "0 -", "- -", "1, 2", "(1, 2)", "()",
        ]:
            if text != "-":
                with self.subTest(text[:60]):
                    self.refused_both(NoText, read_rack, text=text)
        for text in NO_NUMBERS:
            self.refused(NoText, read_rack, "0 " + text)
            self.refused(NoText, read_rack, text + " 0")
        self.check_odd(read_rack)


class ThingTest(Texts):

    def test_told_and_read_again(self):
        kind = tip_fork()
        rack = (1, 0, 2)
        self.tells_both("2 tip fork(tip,tip)", thing_text, kind=kind, rack=rack, thing=(2, (0, 1, 0, 0)))
        self.tells_both((2, (0, 1, 0, 0)), read_thing, kind=kind, rack=rack, text="2 tip fork(tip,tip)")
        self.tells_both("1", thing_text, kind=kind, rack=rack, thing=(1, ()))
        self.tells_both((1, ()), read_thing, kind=kind, rack=rack, text="1")
        for makers in ALL_MAKERS:
            kind = Kind(list(makers))
            for thing in Forest(makers).things_up_to((2, 0, 1, 3), 5):
                self.tells(thing, read_thing(kind, (2, 0, 1, 3), thing_text(kind, (2, 0, 1, 3), thing)))
        wide = (0,) * 3999 + (200,)
        thing = (3999, (0,) * 200)
        self.tells("3999" + " tip" * 200, thing_text(tip_fork(), wide, thing))
        self.tells(thing, read_thing(tip_fork(), wide, "3999" + " tip" * 200))

    def test_near_by(self):
        for text in ("0 tip fork(tip,tip)", "1", "2 fork(tip,tip)", "10"):
            self.check_read(read_thing, thing_text, text, tip_fork(), (2, 0, 1) + (0,) * 8)

    def test_no_things(self):
        kind = tip_fork()
        for text in [
            "", "-", "3", "3 tip", "0", "0 tip", "0 tip tip tip", "1 tip", "2", "2 tip tip", "2 fork", "2 leaf",
            "tip", "-1", "00 tip tip", "+0 tip tip", "-0 tip tip", "0  tip tip", " 0 tip tip", "0 tip tip ",
            "0 tip  tip", "1 ", " 1", "0 tip,tip", "0 tip\ntip", "0\ttip tip", "2 fork(tip, tip)", "2 (tip)",
            "\u0661", "2 0", "2 1 0 0", SIXTY_ONE, "(2, (0,))", "2 tip\n", SIXTY, "2 dot",
        ]:
            with self.subTest(text):
                self.refused_both(NoText, read_thing, kind=kind, rack=(2, 0, 1), text=text)
        self.refused(NoText, read_thing, kind, (), "0")
        self.check_odd(read_thing, kind, (2, 0, 1))

    def test_no_rack_first(self):
        for rack in no_racks():
            for text in (None, "", "0", "0 tip"):
                self.refused_both(NoRack, read_thing, kind=tip_fork(), rack=rack, text=text)


class StepTest(Texts):

    def test_told_and_read_again(self):
        for step, text in ((("open", 0, 1), "open 0 1"), (("close", 12, 0), "close 12 0"), (("order", ()), "order"),
                           (("order", (0,)), "order 0"), (("order", (2, 0, 1)), "order 2 0 1")):
            self.tells_both(text, step_text, step=step)
            self.tells_both(step, read_step, text=text)

    def test_any_numbers_from_0_on(self):
        for text, step in (("open 7 " + SIXTY, ("open", 7, 10 ** 59)), ("close 999999 0", ("close", 999999, 0)),
                           ("order 5 5 5", ("order", (5, 5, 5))), ("order 1", ("order", (1,)))):
            self.tells(step, read_step(text))
            self.tells(text, step_text(step))

    def test_near_by(self):
        for text in ("open 0 1", "close 10 0", "order", "order 0", "order 1 0 12"):
            self.check_read(read_step, step_text, text)

    def test_no_steps(self):
        for text in [
            "", "open", "close", "open 0", "close 0", "open 0 0 0", "close 0 0 0", "Open 0 0", "OPEN 0 0", "opens 0 0",
            "shut 0 0", "0 0", "open 0, 0", "open -1 0", "open 0 -1", "close -1 0", "order -1", "order 0 -1", "order -",
            "order ", "order  0", " order", "order\n", "order 0 ", "open  0 0", "open 0  0", " open 0 0", "open 0 0 ",
            "open 0\n0", "open\t0 0", "open 0 0\n", "open 00 0", "open 0 01", "open +1 0", "open -0 0", "order 00",
            "order (0, 1)", "order0", "open0 0", "open 0 \u0660", "-", "orde", "open zero zero", "open 0 " + SIXTY_ONE,
            "order " + SIXTY_ONE,
        ]:
            with self.subTest(text):
                self.refused_both(NoText, read_step, text=text)
                self.refused(NoText, read_verdict, "alike\n" + text)
                if text:
                    self.refused(NoText, read_steps, text)
                self.refused(NoText, read_steps, "open 0 0\n" + text)
                self.refused(NoText, read_steps, text + "\nopen 0 0")
        self.check_odd(read_step)

    def test_rows_of_steps(self):
        steps = [("open", 0, 0), ("order", ()), ("close", 3, 1), ("order", (1, 0))]
        text = "open 0 0\norder\nclose 3 1\norder 1 0"
        self.tells_both(text, steps_text, steps=steps)
        self.tells_both(steps, read_steps, text=text)
        self.tells_both("", steps_text, steps=[])
        self.tells_both([], read_steps, text="")
        self.tells([("order", ())], read_steps("order"))
        for text in ("\n", "\n\n", "open 0 0\n", "\nopen 0 0", "open 0 0\n\nopen 0 0", "open 0 0; open 0 0", " ",
                     "open 0 0 open 0 0", "open 0 0\r\nopen 0 0", "open 0 0, open 0 0", "-", "alike\nopen 0 0"):
            self.refused_both(NoText, read_steps, text=text)
        self.check_odd(read_steps)

    def test_rows_near_by(self):
        for text in ("", "order", "open 0 0\norder", "order 1\nclose 0 3\nopen 1 1"):
            self.check_read(read_steps, steps_text, text)

    def test_a_new_list_each_time(self):
        read_steps("order").append(None)
        self.tells([("order", ())], read_steps("order"))
        steps = [("order", ())]
        steps_text(steps)
        self.tells([("order", ())], steps)
        read_steps("").append(None)
        self.tells([], read_steps(""))


class PolyTest(Texts):

    def test_told_and_read_again(self):
        for one, text in (((), "-"), ((1, -1, 1), "1 -1 1"), ((0, 0, -7), "0 0 -7"), ((GREAT,), "9" * 60),
                          ((0, -GREAT), "0 -" + "9" * 60)):
            self.tells_both(text, poly_text, one=one)
            self.tells_both(one, read_poly, text=text)
        for one in some_polys():
            self.tells(one, read_poly(poly_text(one)))
        for number in GREATS:
            self.tells((number,), read_poly(str(number)))

    def test_sixty_figures_and_sixty_one(self):
        self.tells((10 ** 59,), read_poly(SIXTY))
        self.tells((-(10 ** 59),), read_poly("-" + SIXTY))
        self.tells(SIXTY_ONE, poly_text((10 ** 60,)))
        self.tells("-" + SIXTY_ONE, poly_text((-(10 ** 60),)))
        self.refused(NoText, read_poly, SIXTY_ONE)
        self.refused(NoText, read_poly, "-" + SIXTY_ONE)

    def test_thousands_of_figures(self):
        for many in (61, 119, 120, 121, 4000, 4299, 4300, 4301, 9000):
            self.tells("1" + "0" * many, poly_text((10 ** many,)))
            self.tells("0 -" + "9" * many, poly_text((0, 1 - 10 ** many)))

    def test_near_by(self):
        for text in ("-", "7", "1 -1 1", "0 10 -20"):
            self.check_read(read_poly, poly_text, text)

    def test_no_polynomials(self):
        for text in NO_NUMBERS + ["0", "0 0", "1 0", "1 -1 0", "- 1", "1 -", "-1 -", "- -", "1, -1"]:
            if text != "-":
                with self.subTest(text[:60]):
                    self.refused_both(NoText, read_poly, text=text)
        for text in NO_NUMBERS:
            self.refused(NoText, read_poly, "1 " + text)
            self.refused(NoText, read_poly, text + " 1")
        self.check_odd(read_poly)


class VerdictTest(Texts):

    def test_told_and_read_again(self):
        for verdict, text in (
            (("alike", []), "alike"), (("alike", [("order", ())]), "alike\norder"),
            (("alike", [("open", 0, 1), ("order", (1, 0))]), "alike\nopen 0 1\norder 1 0"),
            (("parted", ("fixed", "first")), "parted fixed first"),
            (("parted", ("fixed", "second")), "parted fixed second"),
            (("parted", ("rest", ((1, 1),), ((-1, 1),))), "parted rest\nquotient 1\nrest -1"),
            (("parted", ("rest", (), ())), "parted rest\nquotient -\nrest -"),
            (("parted", ("rest", ((0, 1), (-3, 2)), ())), "parted rest\nquotient 0 -3/2\nrest -"),
            (("parted", ("rest", (), ((1, 16), (0, 1), (-GREAT, 10 ** 59)))),
             "parted rest\nquotient -\nrest 1/16 0 -" + "9" * 60 + "/" + SIXTY),
            (("long", 13), "long 13"), (("long", 0), "long 0"), (("long", 10 ** 59), "long " + SIXTY),
        ):
            self.tells_both(text, verdict_text, verdict=verdict)
            self.tells_both(verdict, read_verdict, text=text)

    def test_the_example(self):
        self.tells("parted rest\nquotient 1\nrest -1", verdict_text(verdict_of(tip_fork(), (2,), (1,))))

    def test_verdicts_of_racks(self):
        for kind in more_kinds():
            for one, two, _ in alike_pairs(kind, 12, 11):
                for left, right in ((one, two), (one, two + (0,)), (one + (2,), two), ((0, 0), two), (two, ())):
                    verdict = verdict_of(kind, left, right)
                    self.tells(verdict, read_verdict(verdict_text(verdict)))
        one, two = racks_of(tip_fork(), [0, 13], (1,))
        self.tells("long 13", verdict_text(verdict_of(tip_fork(), one, two)))

    def test_great_numbers_are_written_but_not_read(self):
        verdict = verdict_of(Kind([("a", 0), ("b", 2), ("c", 2), ("d", 2)]), (200,), (1,))
        text = self.quick(verdict_text, verdict)
        self.assertIn("/" + str(3 ** 199), text)
        self.refused(NoText, read_verdict, text)
        self.tells("long " + "9" * 9000, verdict_text(("long", 10 ** 9000 - 1)))
        self.refused(NoText, read_verdict, "long " + SIXTY_ONE)
        self.refused(NoText, read_verdict, "parted rest\nquotient 1/" + SIXTY_ONE + "\nrest -")
        self.refused(NoText, read_verdict, "parted rest\nquotient -\nrest " + SIXTY_ONE)

    def test_near_by(self):
        for text in ("alike", "alike\norder", "alike\nopen 0 1\norder 1 0", "parted fixed first", "parted fixed second",
                     "parted rest\nquotient 1\nrest -1", "parted rest\nquotient -\nrest -", "long 13", "long 0",
                     "parted rest\nquotient 0 -3/2\nrest 1/16 10/11"):
            self.check_read(read_verdict, verdict_text, text)

    def test_no_fractions(self):
        for text in NO_NUMBERS + [
            "1/1", "-1/1", "0/1", "2/4", "-2/4", "3/3", "0/2", "0/5", "1/0", "0/0", "1/-2", "-1/-2", "1/", "/2", "/",
            "1//2", "1/2/3", "1/02", "01/2", "+1/2", "1/+2", "-0/3", "1 /2", "1/ 2", "1/\u0662", "1\\2", "1:2",
            "1/2.0", "1/a",
        ]:
            if text != "-":
                with self.subTest(text[:60]):
                    self.refused(NoText, read_verdict, "parted rest\nquotient " + text + "\nrest -")
                    self.refused(NoText, read_verdict, "parted rest\nquotient -\nrest " + text)
                    self.refused(NoText, read_verdict, "parted rest\nquotient " + text + " 1\nrest -")
                    self.refused(NoText, read_verdict, "parted rest\nquotient -\nrest 1 " + text)

    def test_no_verdicts(self):
        for text in [
            "", "-", "Alike", "alike ", " alike", "alike\n", "alike\n\norder", "alike open 0 0", "alike; open 0 0",
            "open 0 0", "parted", "parted fixed", "parted fixed third", "parted fixed first\n", "parted  fixed first",
            "parted fixed first second", "parted\nfixed first", "parted fixed\nfirst", "fixed first", "parted rest",
            "parted rest\nquotient 1", "parted rest\nrest -1", "parted rest\nrest -1\nquotient 1", "parted rest\n1\n-1",
            "parted rest\nquotient 1\nrest -1\n", "parted rest\n\nquotient 1\nrest -1",
            "parted rest quotient 1 rest -1", "parted rest\nquotient\nrest", "parted rest\nquotient \nrest ",
            "parted rest\nquotient 0\nrest -1", "parted rest\nquotient 1\nrest 0",
            "parted rest\nquotient 1 0\nrest -1", "parted rest\nquotient - 1\nrest -1",
            "parted rest\nquotient  1\nrest -1", "parted rest\nquotient 1 \nrest -1",
            "parted rest\nquotient 1\nrest 1 -", "parted rest; quotient 1; rest -1",
            "parted rest\nquotient 1\nrest -1\nrest -1", "rest", "quotient 1\nrest -1", "long", "long ", "long -1",
            "long -0", "long 01", "long +1", "long 1 ", "long  1", "long 1 2", "long 1\n", "long 1/2", "long x",
            "longer 1", "long13", "parted long 3", "alike\nparted fixed first", "alike\nlong 3",
            "parted fixed first\norder", "long 3\norder", "Parted fixed first",
        ]:
            with self.subTest(text):
                self.refused_both(NoText, read_verdict, text=text)
        self.check_odd(read_verdict)

    def test_a_new_list_each_time(self):
        told = read_verdict("alike\norder")
        told[1].clear()
        self.tells(("alike", [("order", ())]), read_verdict("alike\norder"))
        verdict = ("alike", [("order", ())])
        verdict_text(verdict)
        self.tells(("alike", [("order", ())]), verdict)


if __name__ == "__main__":
    unittest.main()
