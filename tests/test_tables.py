"""[28] to [30]: tables of turnings, things led by them, and whether two turnings lead all alike; [3] of turnings."""

import unittest
from random import Random

from boughswap.errors import NoMatch, TooMuch
from boughswap.kinds import Kind
from boughswap.patterns import filled, holes_of, is_pattern, matched
from boughswap.racks import is_thing
from boughswap.steps import closes_of, opens_of
from boughswap.tables import are_same, by_table, parting_thing, table_of
from boughswap.turnings import Turning, join
from helping import ALL_MAKERS, FORK_TIP, LINES, TIP_FORK, Checks, Forest, tip_fork
from some_turnings import some_turnings


class Hole:
    """A hole of its own, which stands in both patterns of a row."""


def written(parts):
    out = ()
    for part in parts:
        out = out + ((-1,) if isinstance(part, Hole) else (part[0],) + written(part[1]))
    return out


def put_in(parts, hole, tree):
    """The parts with a tree where the hole stands."""
    out = []
    for part in parts:
        if part is hole:
            out.append(tree)
        else:
            out.append(part if isinstance(part, Hole) else (part[0], put_in(part[1], hole, tree)))
    return out


def led(makers, step, place, parts):
    """As [20] tells, of trees told as tuples (maker, trees within)."""
    if step[0] == "order":
        return step[1].index(place), parts
    word, at, slot = step
    if word == "open":
        if place != at:
            return place + (len(makers) - 1 if place > at else 0), parts
        maker, within = parts[slot]
        return at + maker, parts[:slot] + within + parts[slot + 1:]
    if not at <= place < at + len(makers):
        return place - (len(makers) - 1 if place > at else 0), parts
    end = slot + makers[place - at][1]
    return at, parts[:slot] + [(place - at, parts[slot:end])] + parts[end:]


def slow_table(makers, rack, steps):
    """The table, told step by step of trees within trees."""
    rows = []
    for place, form in enumerate(rack):
        holes = [Hole() for _ in range(form)]
        rows.append((place, holes, place, holes))
    for step in steps:
        split = []
        for row in rows:
            hole = row[3][step[2]] if step[0] == "open" and row[2] == step[1] else None
            if not isinstance(hole, Hole):
                split.append(row)
                continue
            for maker, (_, within) in enumerate(makers):
                tree = (maker, [Hole() for _ in range(within)])
                split.append((row[0], put_in(row[1], hole, tree), row[2], put_in(row[3], hole, tree)))
        rows = [row[:2] + led(makers, step, row[2], row[3]) for row in split]
    return [((row[0], written(row[1])), (row[2], written(row[3]))) for row in rows]


def wandering(makers, rack, many, seed, most=60):
    """A turning of so many steps picked here and there."""
    chance = Random(seed)
    kind = Kind(list(makers))
    turning = Turning(kind, rack, [])
    for _ in range(many):
        end = turning.end
        closes = closes_of(kind, end)
        opens = opens_of(end)
        pick = chance.randrange(4)
        if closes and (pick < 2 or len(end) > 12):
            step = chance.choice(closes)
        elif opens and pick < 3 and len(end) < most:
            step = chance.choice(opens)
        else:
            step = ("order", tuple(chance.sample(range(len(end)), len(end))))
        turning = Turning(kind, rack, turning.steps() + [step])
    return turning


class TableTest(Checks):

    def test_no_step(self):
        kind = tip_fork()
        self.tells([((0, (-1, -1)), (0, (-1, -1))), ((1, ()), (1, ())), ((2, (-1,)), (2, (-1,)))],
                   table_of(turning=Turning(kind, (2, 0, 1), [])))
        self.tells([], table_of(Turning(kind, (), [])))
        self.tells([], table_of(Turning(kind, (), [("order", ())])))

    def test_an_open(self):
        self.tells([
            ((0, ()), (0, ())), ((1, (-1, 0)), (1, (-1,))), ((1, (-1, 1, -1, -1)), (2, (-1, -1, -1))),
            ((2, (-1,)), (3, (-1,))),
        ], table_of(Turning(tip_fork(), (0, 2, 1), [("open", 1, 1)])))

    def test_opened_within_what_was_opened(self):
        # The second open splits the row of the fork alone, where it stands.
        self.tells([
            ((0, (0,)), (0, ())), ((0, (1, -1, 0)), (1, (-1,))), ((0, (1, -1, 1, -1, -1)), (2, (-1, -1, -1))),
        ], table_of(Turning(tip_fork(), (1,), [("open", 0, 0), ("open", 1, 1)])))

    def test_a_close(self):
        self.tells([((0, ()), (0, (0,))), ((1, (-1, -1)), (0, (1, -1, -1))), ((2, (-1,)), (1, (-1,)))],
                   table_of(Turning(tip_fork(), (0, 2, 1), [("close", 0, 0)])))
        # What is closed is no hole: opened again in the same slot it splits no row.
        self.tells([((0, ()), (0, ())), ((1, (-1, -1)), (1, (-1, -1)))],
                   table_of(Turning(tip_fork(), (0, 2), [("close", 0, 0), ("open", 0, 0)])))
        # In another slot a hole stands behind the closed tree.
        self.tells([
            ((0, (0,)), (0, (0,))), ((0, (1, -1, -1)), (1, (0, -1, -1))),
            ((1, (-1, -1, 0)), (0, (1, -1, -1))), ((1, (-1, -1, 1, -1, -1)), (1, (1, -1, -1, -1, -1))),
        ], table_of(Turning(tip_fork(), (1, 3), [("close", 0, 0), ("open", 0, 1)])))

    def test_an_order(self):
        self.tells([((0, (-1,)), (2, (-1,))), ((1, ()), (0, ())), ((2, (-1, -1)), (1, (-1, -1)))],
                   table_of(Turning(tip_fork(), (1, 0, 2), [("order", (1, 2, 0))])))

    def test_against_trees_within_trees(self):
        for makers in ALL_MAKERS:
            for turning in some_turnings(makers):
                for some in (turning, turning.turned(), join(turning, turning.turned())):
                    self.tells(slow_table(makers, some.begin, some.steps()), table_of(some))
            for seed in range(40):
                turning = wandering(makers, (2, 0, 3), 8, seed)
                slow = slow_table(makers, turning.begin, turning.steps())
                if len(slow) <= 400:
                    self.tells(slow, table_of(turning))

    def test_rows_are_patterns_with_as_many_holes(self):
        for makers in ALL_MAKERS:
            for turning in some_turnings(makers):
                for first, second in table_of(turning):
                    self.tells(True, is_pattern(turning.kind, turning.begin, first))
                    self.tells(True, is_pattern(turning.kind, turning.end, second))
                    self.tells(holes_of(first), holes_of(second))

    def test_a_new_list_each_time(self):
        turning = Turning(tip_fork(), (1,), [("open", 0, 0)])
        told = table_of(turning)
        table_of(turning).clear()
        self.assertIsNot(told, table_of(turning))
        self.tells([((0, (0,)), (0, ())), ((0, (1, -1, -1)), (1, (-1, -1)))], table_of(turning))

    def test_too_much_ahead_of_any_step(self):
        kind = tip_fork()
        self.tells(400, len(table_of(Turning(kind, (1,) * 400, []))))
        self.refused(TooMuch, table_of, Turning(kind, (1,) * 401, []))
        self.refused(TooMuch, table_of, Turning(kind, (0,) * 401, [("order", tuple(range(401)))]))
        self.refused(TooMuch, table_of, Turning(kind, (0,) * 401, []))
        self.refused(TooMuch, table_of, Turning(kind, (0, 2) * 300, [("close", at, 0) for at in range(300)]))

    def test_too_much_by_steps(self):
        kind = tip_fork()
        self.tells(400, len(table_of(Turning(kind, (0,) * 398 + (1,), [("open", 398, 0)]))))
        self.refused(TooMuch, table_of, Turning(kind, (0,) * 399 + (1,), [("open", 399, 0)]))
        # Also where the racks are few forms again.
        there_and_back = [("open", 399, 0), ("close", 399, 0)]
        self.refused(TooMuch, table_of, Turning(kind, (0,) * 399 + (1,), there_and_back))
        # A closed tree is no hole, so the open adds no row.
        self.tells(400, len(table_of(Turning(kind, (0,) * 398 + (0, 2), [("close", 398, 0), ("open", 398, 0)]))))
        lines = Kind(list(LINES))
        self.tells(400, len(table_of(Turning(lines, (0,) * 397 + (1,), [("open", 397, 0)]))))
        self.refused(TooMuch, table_of, Turning(lines, (0,) * 398 + (1,), [("open", 398, 0)]))
        # Opened far to the side, so often that each tree of a form is told apart.
        turning = Turning(kind, (1,), [("open", at, 0) for at in range(199)])
        self.tells(200, len(self.quick(table_of, turning)))


class ByTableTest(Checks):

    def test_as_run_tells(self):
        for makers in ALL_MAKERS:
            forest = Forest(makers)
            for turning in some_turnings(makers):
                rows = table_of(turning)
                for thing in forest.things_up_to(turning.begin, 5):
                    told = turning.run(thing)
                    self.tells_both(told, by_table, kind=turning.kind, rows=rows, thing=thing)
                    self.tells(told, by_table(turning.kind, rows[::-1], thing))

    def test_each_thing_is_just_one_row(self):
        for makers in ALL_MAKERS:
            forest = Forest(makers)
            for turning in some_turnings(makers):
                kind = turning.kind
                rows = table_of(turning)
                for thing in forest.things_up_to(turning.begin, 5):
                    mine = [row for row in rows if matched(kind, turning.begin, row[0], thing) is not None]
                    self.assertEqual(1, len(mine))
                    left = [row for row in rows if row != mine[0]]
                    self.tells(None, by_table(kind, left, thing))
                    self.tells(turning.run(thing), by_table(kind, mine, thing))

    def test_no_rows_and_other_places(self):
        kind = tip_fork()
        self.tells(None, by_table(kind, [], (0, (0,))))
        rows = table_of(Turning(kind, (1, 2), [("open", 1, 0)]))
        self.tells(None, by_table(kind, rows, (2, (0,))))
        self.tells(None, by_table(kind, rows, (1, (0,))))
        self.tells(None, by_table(kind, rows, (0, ())))
        self.tells(None, by_table(kind, rows, (0, (0, 0))))

    def test_the_rows_stay(self):
        rows = table_of(Turning(tip_fork(), (1,), [("open", 0, 0)]))
        by_table(tip_fork(), rows, (0, (1, 0, 0)))
        self.tells([((0, (0,)), (0, ())), ((0, (1, -1, -1)), (1, (-1, -1)))], rows)

    def test_wandering(self):
        for makers in ALL_MAKERS:
            forest = Forest(makers)
            for seed in range(6):
                turning = wandering(makers, (1, 2), 12, seed, 20)
                rows = table_of(turning)
                for thing in forest.things_up_to(turning.begin, 4):
                    self.tells(turning.run(thing), by_table(turning.kind, rows, thing))


class SameTest(Checks):

    def check_parted(self, one, two):
        """Told unlike, with a thing that shows it."""
        self.tells_both(False, are_same, one=one, two=two)
        thing = parting_thing(one, two)
        self.tells(True, is_thing(one.kind, one.begin, thing))
        self.assertNotEqual(one.run(thing), two.run(thing))
        self.tells(thing, parting_thing(two=two, one=one))

    def check_same(self, one, two):
        self.tells_both(True, are_same, one=one, two=two)
        self.tells_both(None, parting_thing, one=one, two=two)
        for thing in Forest(one.kind.makers()).things_up_to(one.begin, 4):
            self.tells(one.run(thing), two.run(thing))

    def test_the_same_by_other_steps(self):
        kind = tip_fork()
        still = Turning(kind, (1, 2), [])
        self.check_same(still, still)
        self.check_same(still, Turning(kind, (1, 2), [("open", 1, 1), ("close", 1, 1)]))
        self.check_same(still, Turning(kind, (1, 2), [("order", (1, 0)), ("order", (1, 0))]))
        # Two slots opened in either order.
        one = Turning(kind, (2,), [("open", 0, 0), ("open", 0, 0), ("open", 2, 2)])
        two = Turning(kind, (2,), [("open", 0, 1), ("open", 0, 0), ("open", 2, 0), ("order", (0, 2, 1, 3))])
        self.tells((one.begin, one.end), (two.begin, two.end))
        self.check_same(one, two)

    def test_forms_alike_exchanged(self):
        kind = tip_fork()
        still = Turning(kind, (2, 2), [])
        self.check_parted(still, Turning(kind, (2, 2), [("order", (1, 0))]))
        self.check_parted(Turning(kind, (0, 0, 1), []), Turning(kind, (0, 0, 1), [("order", (1, 0, 2))]))

    def test_opened_at_one_slot_and_closed_at_another(self):
        for makers in ALL_MAKERS:
            kind = Kind(list(makers))
            for many in (2, 3):
                still = Turning(kind, (0, many), [])
                for slot in range(many):
                    for other in range(many):
                        turning = Turning(kind, (0, many), [("open", 1, slot), ("close", 1, other)])
                        if slot == other:
                            self.check_same(still, turning)
                        else:
                            self.check_parted(still, turning)
                            self.check_parted(turning, still)

    def test_leaves_exchanged(self):
        # Only things with a tree of one number alone are led to unlike ones.
        kind = Kind([("ash", 0), ("oak", 0), ("pair", 2)])
        for rack in ((1,), (0, 2)):
            place = len(rack) - 1
            for places in ((1, 0, 2), (0, 1, 2)):
                moved = ("order", tuple(list(range(place)) + [place + at for at in places]))
                exchanged = Turning(kind, rack[:-1] + (1,), [("open", place, 0), moved, ("close", place, 0)])
                still = Turning(kind, exchanged.begin, [])
                if places == (0, 1, 2):
                    self.check_same(still, exchanged)
                else:
                    self.check_parted(still, exchanged)
                    self.check_parted(exchanged, still)

    def test_unlike_of_few_things_alone(self):
        # Two opens apart from one another: only things with a fork in a fork are led to unlike ones.
        kind = tip_fork()
        one = [("open", 0, 0), ("open", 1, 0), ("open", 2, 0)]
        exchanged = one + [("close", 2, 1), ("close", 1, 0), ("close", 0, 0)]
        self.check_parted(Turning(kind, (1,), []), Turning(kind, (1,), exchanged))

    def test_against_all_small_things(self):
        for makers in (TIP_FORK, FORK_TIP, LINES):
            forest = Forest(makers)
            for seed in range(60):
                turning = wandering(makers, (1, 1), 6, seed, 8)
                back = wandering(makers, turning.end, 3, seed + 1000, 8)
                other = join(turning, join(back, back.turned()))
                self.check_same(turning, other)
                crossed = self.crossed(turning)
                if any(turning.run(thing) != crossed.run(thing) for thing in forest.things_up_to((1, 1), 6)):
                    self.check_parted(turning, crossed)
                elif are_same(turning, crossed) is False:
                    self.check_parted(turning, crossed)
                else:
                    self.check_same(turning, crossed)

    def crossed(self, turning):
        """The turning, with its first two forms exchanged ahead."""
        return Turning(turning.kind, turning.begin, [("order", (1, 0))] + turning.steps())

    def test_no_match(self):
        kind = tip_fork()
        one = Turning(kind, (2, 2), [])
        others = [
            Turning(Kind(list(FORK_TIP)), (2, 2), []), Turning(Kind([("tip", 0), ("bough", 2)]), (2, 2), []),
            Turning(kind, (2, 2, 0), []), Turning(kind, (2, 2), [("open", 0, 0)]), Turning(kind, (), []),
            Turning(kind, (1, 3, 2), [("close", 0, 0)]),
        ]
        for two in others:
            self.refused_both(NoMatch, are_same, one=one, two=two)
            self.refused_both(NoMatch, parting_thing, one=one, two=two)
            self.refused(NoMatch, are_same, two, one)
            self.refused(NoMatch, parting_thing, two, one)
        # Ahead of what would be too much.
        wide = Turning(kind, (0,) * 500, [])
        self.refused(NoMatch, are_same, wide, Turning(Kind(list(FORK_TIP)), (0,) * 500, []))

    def test_too_much(self):
        kind = tip_fork()
        wide = Turning(kind, (0,) * 401, [])
        self.refused_both(TooMuch, are_same, one=wide, two=wide)
        self.refused_both(TooMuch, parting_thing, one=wide, two=wide)
        narrow = Turning(kind, (0,) * 400, [])
        self.check_same(narrow, Turning(kind, (0,) * 400, [("order", tuple(range(400)))]))
        # Each alone has few rows enough, but not both, one behind the other.
        one = Turning(kind, (0,) * 398 + (1,), [("open", 398, 0)])
        self.tells(True, are_same(one, one))
        more = Turning(kind, (0,) * 398 + (1,), [("open", 398, 0), ("open", 399, 0), ("close", 399, 0)])
        self.refused(TooMuch, are_same, more, one)
        self.refused(TooMuch, parting_thing, one, more)

    def test_told_things_may_be_handed_in_again(self):
        kind = tip_fork()
        one = Turning(kind, (1, 1), [("open", 0, 0), ("close", 0, 0), ("order", (1, 0))])
        thing = parting_thing(one, Turning(kind, (1, 1), []))
        self.tells(one.run(thing), by_table(kind, table_of(one), thing))
        for first, second in table_of(one):
            leaves = [(0,)] * holes_of(first)
            self.tells(filled(second, leaves), one.run(filled(first, leaves)))


if __name__ == "__main__":
    unittest.main()
