"""[46] and [47]: rows told to a desk, their answers, and what it refuses."""

import unittest

from boughswap.classes import comes_again, count_to, wanting
from boughswap.decide import turning_between, verdict_of
from boughswap.desk import Desk
from boughswap.errors import NoMatch, NoName, NoNumber, NoRow, NotAlike, NoText, NoTrees, TooLong, TooMuch
from boughswap.kinds import Kind
from boughswap.noughts import contrary_of
from boughswap.racks import put_times
from boughswap.texts import rack_text, steps_text, thing_text, verdict_text
from helping import LINES, Checks, Forest, no_wholes, tip_fork
from some_racks import alike_pairs, more_kinds, racks_of

SIXTY_ONE = "1" + "0" * 60

# How many words stand behind each first word; a text is one word or more.
WORDS = {
    "beside": 3, "times": 3, "contrary": 3, "wanting": 4, "show": 1, "alike": 3, "turn": 4, "parted": 3, "steps": 1,
    "ends": 1, "back": 2, "join": 3, "same": 2, "again": 2, "count": 3, "names": 0,
}
WORDS_AHEAD_OF_TEXT = {"kind": 1, "rack": 1, "judge": 3, "run": 1, "unrun": 1}


def in_a_row(text):
    return text.replace("\n", "; ")


class Told(Checks):

    def desk(self, *rows):
        """A desk to which the rows have been told, each answered by ok."""
        desk = Desk()
        for row in rows:
            self.tells("ok", desk.say(row))
        return desk

    def usual(self):
        """Names of each sort: a kind, racks that are alike, one that isn't, and turnings."""
        return self.desk("kind k tip 0, fork 2", "rack a 7", "rack b 1", "rack c 2", "rack d -", "turn t k a b",
                         "turn u k b a")

    def answers(self, desk, row, answer):
        self.tells(answer, desk.say(row))
        self.tells(answer, desk.say(row=row))

    def no_answer(self, desk, error, row):
        """The row is refused, and all names lead where they led."""
        names = desk.say("names")
        self.refused(error, desk.say, row)
        self.refused(error, desk.say, row=row)
        self.tells(names, desk.say("names"))


class RowsTest(Told):

    def test_racks(self):
        desk = self.desk("rack a 0 2 1", "rack b -", "rack c 1 1")
        self.answers(desk, "show a", "0 2 1")
        self.answers(desk, "show b", "-")
        for row, told in (("beside x a c", "0 2 1 1 1"), ("beside x c a", "1 1 0 2 1"), ("beside x a b", "0 2 1"),
                          ("beside x b b", "-"), ("times x c a", "1 3 2 1 3 2"), ("times x a c", "1 1 3 3 2 2"),
                          ("times x a b", "-"), ("times x a a", "0 2 1 2 4 3 1 3 2")):
            self.tells("ok", desk.say(row))
            self.answers(desk, "show x", told)

    def test_contrary_and_wanting(self):
        for kind in more_kinds():
            makers = ", ".join([name + " " + str(many) for name, many in kind.makers()])
            desk = self.desk("kind k " + makers, "rack a 1 0", "rack b 2 3", "contrary x k a", "wanting y k a b",
                             "beside z a y")
            self.answers(desk, "show x", rack_text(contrary_of(kind, (1, 0))))
            self.answers(desk, "show y", rack_text(wanting(kind, (1, 0), (2, 3))))
            self.answers(desk, "alike k z b", "yes")

    def test_alike_and_parted(self):
        desk = self.usual()
        self.answers(desk, "alike k a b", "yes")
        self.answers(desk, "alike k a c", "no")
        self.answers(desk, "alike k d d", "yes")
        self.answers(desk, "parted k a b", "none")
        self.answers(desk, "parted k c b", "parted rest; quotient 1; rest -1")
        self.answers(desk, "parted k d b", "parted fixed first")
        self.answers(desk, "parted k b d", "parted fixed second")

    def test_turn_steps_and_ends(self):
        kind = tip_fork()
        desk = self.usual()
        self.answers(desk, "ends t", "7; 1")
        self.answers(desk, "steps t", in_a_row(steps_text(turning_between(kind, (7,), (1,)).steps())))
        desk.say("turn v k d d")
        self.answers(desk, "ends v", "-; -")
        self.answers(desk, "steps v", "-")
        desk.say("rack e 0 2")
        desk.say("turn v k b e")
        self.answers(desk, "ends v", "1; 0 2")
        for step in desk.say("steps v").split("; "):
            self.assertIn(step.split(" ")[0], ("open", "close", "order"))

    def test_an_order_alone(self):
        desk = self.usual()
        self.answers(desk, "judge k d d alike; order", "good")

    def test_judge(self):
        desk = self.usual()
        for row, answer in (
            ("judge k a b alike; " + desk.say("steps t"), "good"),
            ("judge k b a alike; " + desk.say("steps u"), "good"),
            ("judge k a b alike", "end 0"), ("judge k a a alike", "good"),
            ("judge k b b alike; open 0 0", "end 0"), ("judge k d a alike; order", "end 0"),
            ("judge k b b alike; open 0 0; close 0 0; open 1 0", "step 2"),
            ("judge k c b parted rest; quotient 1; rest -1", "good"),
            ("judge k a b parted rest; quotient -; rest -", "sum 1"),
            ("judge k c b parted rest; quotient -; rest 0 -1 1", "long"),
            ("judge k b b parted rest; quotient -; rest -", "whole"),
            ("judge k c b parted rest; quotient 1/2; rest -1", "sum 0"), ("judge k d b parted fixed first", "good"),
            ("judge k d b parted fixed second", "trees"), ("judge k d d parted fixed first", "same"),
            ("judge k a b long 3", "form"), ("judge k a b long 0", "form"),
        ):
            with self.subTest(row):
                self.answers(desk, row, answer)

    def test_verdicts_of_racks_by_rows(self):
        for kind in more_kinds():
            desk = Desk()
            desk.say("kind k " + ", ".join([name + " " + str(many) for name, many in kind.makers()]))
            for one, two, _ in alike_pairs(kind, 6, 12):
                for left, right in ((one, two), (one + (0,), two), ((), two)):
                    desk.say("rack a " + rack_text(left))
                    desk.say("rack b " + rack_text(right))
                    verdict = verdict_of(kind, left, right)
                    self.answers(desk, "judge k a b " + in_a_row(verdict_text(verdict)), "good")
                    self.answers(desk, "alike k a b", "yes" if verdict[0] == "alike" else "no")
                    if verdict[0] == "parted":
                        self.answers(desk, "parted k a b", in_a_row(verdict_text(verdict)))

    def test_back_join_and_same(self):
        desk = self.usual()
        self.no_answer(desk, NoMatch, "join t t t")
        for row, ends in (("back v t", "1; 7"), ("join v t u", "7; 7"), ("join v u t", "1; 1"), ("back t t", "1; 7")):
            self.tells("ok", desk.say(row))
            self.answers(desk, "ends " + row.split(" ")[1], ends)
        desk = self.desk("kind k tip 0, fork 2", "rack a 1 1", "rack b 0 2 1", "turn s k a a", "turn t k a b",
                         "back u t", "join v t u")
        self.answers(desk, "same v s", "yes")
        self.answers(desk, "same t t", "yes")
        self.no_answer(desk, NoMatch, "same t s")
        desk = self.desk("kind l a 0, b 0, c 2", "rack a 0 1", "rack b 1 0", "turn s l a b", "turn t l b a",
                         "join u s t", "turn v l a a")
        self.answers(desk, "same u v", "yes")

    def test_unlike_turnings(self):
        # The first of two forms is opened, put behind the other, and closed there: they change places.
        racks = [("a", (1, 1)), ("b", (0, 2, 1)), ("c", (1, 0, 2))]
        desk = self.desk("kind k tip 0, fork 2", *["rack " + name + " " + rack_text(rack) for name, rack in racks],
                         "turn t k a b", "turn u k b c", "join t t u", "turn u k c a", "join t t u", "turn u k a a")
        self.answers(desk, "run t 0 fork(tip,tip)", "1 fork(tip,tip)")
        self.answers(desk, "same t u", "no")
        self.answers(desk, "same u t", "no")
        self.tells("ok", desk.say("join t t t"))
        self.answers(desk, "same t u", "yes")

    def test_run_and_unrun(self):
        for makers, one, two in (([("tip", 0), ("fork", 2)], (7,), (1,)), (list(LINES), (1, 0), (0, 1, 3, 0))):
            kind = Kind(makers)
            turning = turning_between(kind, one, two)
            desk = self.desk("kind k " + ", ".join([name + " " + str(many) for name, many in makers]),
                             "rack a " + rack_text(one), "rack b " + rack_text(two), "turn t k a b")
            for thing in Forest(makers).things_up_to(one, 9 if one == (7,) else 5):
                start, led = thing_text(kind, one, thing), thing_text(kind, two, turning.run(thing))
                self.answers(desk, "run t " + start, led)
                self.answers(desk, "unrun t " + led, start)

    def test_things_without_trees(self):
        desk = self.desk("kind k tip 0, fork 2", "rack a 1 0", "rack b 0 1", "turn t k a b")
        self.answers(desk, "run t 1", "0")
        self.answers(desk, "unrun t 0", "1")
        self.answers(desk, "run t 0 fork(tip,tip)", "1 fork(tip,tip)")

    def test_again_and_count(self):
        desk = self.usual()
        self.answers(desk, "again k 60", "1 7")
        self.answers(desk, "again k 6", "none")
        self.tells((1, 7), comes_again(tip_fork(), 60))
        for size in (0, 1, 7, 60):
            self.answers(desk, "count k a " + str(size), str(count_to(tip_fork(), (7,), size)))
        self.answers(desk, "count k d 60", "0")

    def test_names(self):
        desk = Desk()
        self.answers(desk, "names", "-")
        for row in ("rack b 1", "kind abcdefgh tip 0, fork 2", "rack names -", "rack kind 0", "turn z abcdefgh b b",
                    "rack a 3"):
            self.tells("ok", desk.say(row))
        self.answers(desk, "names", "a abcdefgh b kind names z")
        self.answers(desk, "show names", "-")
        self.answers(desk, "show kind", "0")
        desk.say("rack b 5")
        self.answers(desk, "names", "a abcdefgh b kind names z")


class NamesTest(Told):

    def test_given_anew_to_another_sort(self):
        desk = self.usual()
        self.tells("ok", desk.say("rack k 1 2"))
        self.answers(desk, "show k", "1 2")
        self.no_answer(desk, NoName, "alike k a b")
        self.tells("ok", desk.say("kind a tip 0, fork 2"))
        self.no_answer(desk, NoName, "show a")
        self.answers(desk, "alike a b b", "yes")
        self.tells("ok", desk.say("turn b a b b"))
        self.answers(desk, "ends b", "1; 1")
        self.no_answer(desk, NoName, "show b")
        self.answers(desk, "names", "a b c d k t u")

    def test_a_name_in_its_own_row(self):
        desk = self.desk("kind k tip 0, fork 2", "rack a 1 2", "beside a a a", "times a a a", "contrary a k a")
        self.answers(desk, "show a", rack_text(contrary_of(tip_fork(), put_times((1, 2, 1, 2), (1, 2, 1, 2)))))
        self.tells("ok", desk.say("turn k k a a"))
        self.no_answer(desk, NoName, "again k 7")
        self.tells("ok", desk.say("back k k"))
        self.tells("ok", desk.say("join a k k"))
        self.no_answer(desk, NoName, "show a")

    def test_what_was_made_of_a_name_stays(self):
        desk = self.usual()
        steps = desk.say("steps t")
        for row in ("kind k a 0, b 1, c 3", "rack a 0", "rack b 0 0", "rack t 1"):
            desk.say(row)
        desk.say("back v u")
        self.answers(desk, "ends v", "7; 1")
        self.answers(desk, "ends u", "1; 7")
        self.assertNotEqual("-", steps)
        self.answers(desk, "run u 0 tip", desk.say("run u 0 tip"))

    def test_desks_side_by_side(self):
        one, two = self.usual(), Desk()
        self.answers(two, "names", "-")
        two.say("rack a 3")
        self.answers(one, "show a", "7")
        self.answers(two, "show a", "3")
        self.no_answer(two, NoName, "show b")
        one.say("rack a 4")
        self.answers(two, "show a", "3")
        self.answers(Desk(), "names", "-")


class NoRowTest(Told):

    def test_no_text(self):
        desk = self.usual()
        odd = [thing for thing in no_wholes() if not isinstance(thing, str)]
        for row in odd + [0, ["names"], ("show", "a"), b"names"]:
            self.no_answer(desk, NoRow, row)

    def test_another_first_word(self):
        desk = self.usual()
        for row in ("", " ", "  ", "name", "Names", "NAMES", "names\n", "\nnames", " names", "shows a", "print a",
                    "a", "7", "show\ta", "show\na", "names;", "turning t k a b", "- a", "unjoin t u",
                    "say names", "\u00adnames"):
            self.no_answer(desk, NoRow, row)

    def test_too_many_and_too_few_words(self):
        desk = self.usual()
        for first, many in WORDS.items():
            for words in range(8):
                if words != many:
                    self.no_answer(desk, NoRow, " ".join([first] + ["a"] * words))
                    self.no_answer(desk, NoRow, first + " " * words)
        for first, many in WORDS_AHEAD_OF_TEXT.items():
            for words in range(many + 1):
                self.no_answer(desk, NoRow, " ".join([first] + ["a"] * words))
                self.no_answer(desk, NoRow, first + " " * words)

    def test_two_blanks_and_a_blank_at_an_end_make_a_word_more(self):
        desk = self.usual()
        for row in ("show  a", "show a ", " show a", "names ", " names", "alike k a b ", "alike  k a b", "alike k  a b",
                    "steps t ", "turn v k a  b", "again k 7 ", "again k  7"):
            self.no_answer(desk, NoRow, row)
        # A word without signs is a name or a text that is none, where the number of words is right.
        for row in ("show ", "alike k  b", "alike k a ", "beside x  a", "beside  a b", "steps ", "alike  a b"):
            self.no_answer(desk, NoName, row)
        for row in ("again k ", "count k a ", "rack x ", "rack x  1", "rack x 1 ", "kind x ", "kind x  tip 0, fork 2",
                    "run t ", "judge k a b ", "judge k a b  alike", "judge k a b alike ", "rack x 1  2"):
            self.no_answer(desk, NoText, row)
        for row in ("kind  tip 0, fork 2", "rack  1", "rack  ", "run  0 tip", "judge k a  alike", "judge k  b alike"):
            self.no_answer(desk, NoName, row)


class WordsTest(Told):

    def test_no_new_name(self):
        desk = self.usual()
        for name in ("A", "a1", "abcdefghi", "-", "a-b", "a.", "1", "a\n", "\u00e9", "aB", "a;", "'a'"):
            for row in ("kind {} tip 0, fork 2", "rack {} 1", "beside {} a b", "times {} a b", "contrary {} k a",
                        "wanting {} k a b", "turn {} k a b", "back {} t", "join {} t u"):
                self.no_answer(desk, NoName, row.format(name))
            # Ahead of what else is refused.
            for row in ("kind {} nothing", "rack {} 1 1 -1", "beside {} x y", "turn {} a k k", "turn {} k a c",
                        "contrary {} k t", "join {} t t"):
                self.no_answer(desk, NoName, row.format(name))

    def test_names_of_another_sort_and_of_nothing(self):
        desk = self.usual()
        sorts = {
            "k": ("a", "t", "x", "K", "-", "tip"), "a": ("k", "t", "x", "7", "-", "0"), "t": ("k", "a", "x", "-", "7"),
        }
        rows = [
            "beside x a a", "times x a a", "contrary x k a", "wanting x k a a", "show a", "alike k a a", "turn x k a a",
            "parted k a a", "judge k a a alike", "steps t", "ends t", "back x t", "join x t t", "same t t",
            "run t 0 tip tip tip tip tip tip tip", "unrun t 0 tip", "again k 7", "count k a 7",
        ]
        for row in rows:
            words = row.split(" ")
            ahead = 2 if words[1] == "x" else 1
            for at in range(ahead, len(words)):
                for other in sorts.get(words[at], ()):
                    self.no_answer(desk, NoName, " ".join(words[:at] + [other] + words[at + 1:]))
                if words[at] not in sorts:
                    break

    def test_numbers(self):
        desk = self.usual()
        for number in ("", "-1", "-0", "00", "07", "+7", "7.0", "x", "seven", "-", SIXTY_ONE, "\u0667", "7\n", "1_0",
                       "0x7"):
            self.no_answer(desk, NoText, "again k " + number)
            self.no_answer(desk, NoText, "count k a " + number)
            self.no_answer(desk, NoName, "again a " + number)
            self.no_answer(desk, NoName, "count k k " + number)
        for number in ("0", "1", "61", "9" * 60):
            self.no_answer(desk, NoNumber, "again k " + number)
        for number in ("61", "9" * 60):
            self.no_answer(desk, NoNumber, "count k a " + number)

    def test_texts(self):
        desk = self.usual()
        for row in (
            "kind x tip", "kind x tip 0", "kind x tip 0 fork 2", "kind x tip 0, fork 1", "kind x -",
            "kind k tip 0,fork 2", "rack x 201", "rack x -1", "rack x 1,2", "rack x tip", "rack x 01", "rack a 1\n2",
            "rack x - -", "rack x a", "rack x " + " ".join(["0"] * 4001),
            "run t 0", "run t 0 tip", "run t 1", "run t tip", "run t -", "run t 0 tip tip tip tip tip tip fork",
            "run u 0 tip tip tip tip tip tip tip", "unrun t 0 tip tip tip tip tip tip tip", "unrun t 0",
            "unrun u 0 tip", "unrun t 0 tip tip", "run t 0 leaf leaf leaf leaf leaf leaf leaf",
        ):
            with self.subTest(row[:60]):
                self.no_answer(desk, NoText, row)
        for text in ("nothing", "alike;", "alike; ", "alike;order", "alike; open 0", "alike; open 0 0;", "open 0 0",
                     "parted", "parted rest; quotient 1", "parted rest; quotient 1; rest 0",
                     "parted rest; quotient 2/2; rest -1", "parted rest;quotient 1;rest -1", "good", "end 0",
                     "long", "long -1", "-", "alike ; open 0 0",
                     "alike\norder", "alike\nopen 0 0; close 0 0", "parted rest\nquotient 1\nrest -1", "alike; order\n",
                     "parted rest; quotient 1\nrest -1"):
            with self.subTest(text):
                self.no_answer(desk, NoText, "judge k c b " + text)
                self.no_answer(desk, NoName, "judge k c x " + text)

    def test_left_to_right(self):
        desk = self.usual()
        for row, error in (
            ("kind A nothing", NoName), ("kind a nothing", NoText), ("run x nothing", NoName),
            ("run a nothing", NoName), ("run t nothing", NoText), ("judge x a b nothing", NoName),
            ("judge k a k alike", NoName),
            ("again x y", NoName), ("again k y", NoText), ("count k x y", NoName), ("count k a y", NoText),
            ("count a k 7", NoName), ("turn T k a c", NoName), ("turn x k a c", NotAlike), ("again k 99", NoNumber),
        ):
            self.no_answer(desk, error, row)


class DeedsTest(Told):

    def test_the_deeds_own(self):
        kind = tip_fork()
        one, two = racks_of(kind, [0, 13], (1,))
        desk = self.usual()
        for row in ("rack wide " + " ".join(["0"] * 4000), "rack high 200", "rack l " + rack_text(one),
                    "rack m " + rack_text(two), "rack z 0 0", "kind o a 0, b 1, c 3", "turn v o b b",
                    "turn w k wide wide", "back q t"):
            self.tells("ok", desk.say(row))
        for row, error in (
            ("beside a wide b", TooMuch), ("beside a b wide", TooMuch), ("times a high b", TooMuch),
            ("times a wide wide", TooMuch), ("contrary a k high", TooMuch), ("contrary a o wide", TooMuch),
            ("wanting a k b z", NoTrees), ("wanting a k high d", NoTrees), ("wanting a k high b", TooMuch),
            ("turn t k a c", NotAlike), ("turn t k z a", NotAlike), ("turn t k l m", TooLong), ("join t t t", NoMatch),
            ("join t t v", NoMatch), ("same t u", NoMatch), ("same v t", NoMatch), ("same w w", TooMuch),
            ("again k 61", NoNumber), ("count k a 61", NoNumber),
        ):
            with self.subTest(row):
                self.no_answer(desk, error, row)
        # All names lead where they led.
        for row, answer in (("show a", "7"), ("ends t", "7; 1"), ("ends q", "1; 7"), ("show z", "0 0"),
                            ("ends v", "1; 1"), ("names", "a b c d high k l m o q t u v w wide z")):
            self.answers(desk, row, answer)

    def test_fields(self):
        kind = tip_fork()
        one, two = racks_of(kind, [0, -13], (1,))
        desk = self.desk("kind k tip 0, fork 2", "rack a 2", "rack b 1", "rack c " + rack_text(one),
                         "rack d " + rack_text(two))
        with self.assertRaises(NotAlike) as caught:
            desk.say("turn t k a b")
        self.tells(("rest", ((1, 1),), ((-1, 1),)), caught.exception.paper)
        with self.assertRaises(TooLong) as caught:
            desk.say("turn t k c d")
        self.tells(13, caught.exception.weight)
        self.tells("a b c d k", desk.say("names"))


if __name__ == "__main__":
    unittest.main()
