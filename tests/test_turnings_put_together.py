"""[25] and [26]: turnings put beside each other, spread over a rack, and trimmed."""

import unittest

from boughswap.errors import NoMatch, NoRack, TooMuch
from boughswap.kinds import Kind
from boughswap.racks import paired, put_beside, put_left, put_right, put_times, unpaired
from boughswap.steps import can_do, rack_after
from boughswap.turnings import Turning, join, trimmed, turn_beside, turn_spread
from helping import ALL_MAKERS, FIVE, FORK_TIP, Checks, Forest, no_racks, tip_fork
from some_turnings import some_turnings


def tip_fork_turning(rack, steps):
    return Turning(tip_fork(), rack, steps)


class BesideTest(Checks):

    def test_steps(self):
        one = tip_fork_turning((1, 0), [("open", 0, 0), ("order", (2, 0, 1)), ("close", 1, 0)])
        two = tip_fork_turning((3, 1), [("open", 0, 2), ("order", (2, 0, 1)), ("close", 1, 1), ("order", (1, 0))])
        told = [("open", 0, 0), ("order", (2, 0, 1, 3, 4)), ("close", 1, 0),
                ("open", 2, 2), ("order", (0, 1, 4, 2, 3)), ("close", 3, 1), ("order", (0, 1, 3, 2))]
        beside = turn_beside(one, two)
        self.tells(told, beside.steps())
        self.tells((1, 0, 3, 1), beside.begin)
        self.tells((0, 1, 3, 1), beside.end)
        self.tells_both(True, lambda one, two: turn_beside(one=one, two=two) == beside, one=one, two=two)
        self.assertTrue(turn_beside(two=two, one=one) == beside)

    def test_places_are_moved_by_the_forms_of_the_end(self):
        one = tip_fork_turning((1,), [("open", 0, 0), ("open", 1, 0)])
        two = tip_fork_turning((1,), [("open", 0, 0)])
        self.tells([("open", 0, 0), ("open", 1, 0), ("open", 3, 0)], turn_beside(one, two).steps())
        self.tells([("open", 0, 0), ("open", 2, 0), ("open", 3, 0)], turn_beside(two, one).steps())

    def test_begins_ends_and_racks(self):
        for makers in ALL_MAKERS:
            for one in some_turnings(makers):
                for two in some_turnings(makers):
                    beside = turn_beside(one, two)
                    self.assertTrue(beside.kind == one.kind)
                    self.tells(put_beside(one.begin, two.begin), beside.begin)
                    self.tells(put_beside(one.end, two.end), beside.end)
                    racks = [rack + two.begin for rack in one.racks()] + [one.end + rack for rack in two.racks()[1:]]
                    self.tells(racks, beside.racks())

    def test_things_to_the_left_and_to_the_right(self):
        for makers in ALL_MAKERS:
            forest = Forest(makers)
            for one in some_turnings(makers):
                for two in some_turnings(makers):
                    self.check_beside(forest, one, two, 3)

    def check_beside(self, forest, one, two, most):
        beside = turn_beside(one, two)
        kind = beside.kind
        for thing in forest.things_up_to(one.begin, most):
            told = put_left(kind, one.end, two.end, one.run(thing))
            self.tells(told, beside.run(put_left(kind, one.begin, two.begin, thing)))
            self.tells(put_left(kind, one.begin, two.begin, thing), beside.back(told))
        for thing in forest.things_up_to(two.begin, most):
            told = put_right(kind, one.end, two.end, two.run(thing))
            self.tells(told, beside.run(put_right(kind, one.begin, two.begin, thing)))
            self.tells(put_right(kind, one.begin, two.begin, thing), beside.back(told))

    def test_an_empty_rack_on_either_side(self):
        one = tip_fork_turning((1, 2), [("open", 1, 1), ("order", (1, 2, 0))])
        empty = tip_fork_turning((), [])
        self.assertTrue(turn_beside(one, empty) == one)
        self.assertTrue(turn_beside(empty, one) == one)
        self.assertTrue(turn_beside(empty, empty) == empty)
        ordered = tip_fork_turning((), [("order", ())])
        self.tells([("order", (0,)), ("open", 0, 0)],
                   turn_beside(ordered, tip_fork_turning((1,), [("open", 0, 0)])).steps())
        self.tells([("open", 0, 0), ("order", (0, 1))],
                   turn_beside(tip_fork_turning((1,), [("open", 0, 0)]), ordered).steps())

    def test_no_steps(self):
        one = tip_fork_turning((1, 0), [])
        two = tip_fork_turning((2,), [("open", 0, 1)])
        self.tells([("open", 2, 1)], turn_beside(one, two).steps())
        self.tells([("open", 0, 1)], turn_beside(two, one).steps())
        self.tells([], turn_beside(one, one).steps())
        self.tells((1, 0, 1, 0), turn_beside(one, one).end)

    def test_no_match(self):
        one = tip_fork_turning((1,), [])
        for makers in ([("fork", 2), ("tip", 0)], [("tip", 0), ("bough", 2)], FIVE):
            self.refused_both(NoMatch, turn_beside, one=one, two=Turning(Kind(makers), (1,), []))
        # Ahead of what would be too much.
        self.refused(NoMatch, turn_beside, tip_fork_turning((0,) * 4000, []), Turning(Kind(list(FORK_TIP)), (1,), []))

    def test_too_much(self):
        full = tip_fork_turning((0,) * 3998 + (1,), [])
        one = tip_fork_turning((1,), [])
        self.tells(4000, len(turn_beside(full, one).end))
        self.refused(TooMuch, turn_beside, full, tip_fork_turning((1, 1), []))
        self.refused(TooMuch, turn_beside, tip_fork_turning((1, 1), []), full)
        # The begin and the end have few forms enough, but not a rack on the way.
        there_and_back = tip_fork_turning((1,), [("open", 0, 0), ("close", 0, 0)])
        self.tells((1,), there_and_back.end)
        self.refused_both(TooMuch, turn_beside, one=full, two=there_and_back)
        self.refused(TooMuch, turn_beside, there_and_back, full)
        less = tip_fork_turning((0,) * 3998, [])
        self.tells(3999, len(turn_beside(less, there_and_back).end))
        self.tells(3999, len(turn_beside(there_and_back, less).end))

    def test_one_ahead_of_two(self):
        # One closes a form before two opens one: no rack on the way has too many forms.
        closing = tip_fork_turning((0, 2) + (0,) * 1998, [("close", 0, 0)])
        opening = tip_fork_turning((1,) + (0,) * 1999, [("open", 0, 0)])
        beside = turn_beside(closing, opening)
        self.tells((4000, 4000), (len(beside.begin), len(beside.end)))
        self.refused(TooMuch, turn_beside, opening, closing)
        self.refused(TooMuch, turn_beside, opening, opening)


class SpreadTest(Checks):

    def test_steps(self):
        turning = tip_fork_turning((1, 2), [("open", 0, 0), ("order", (0, 2, 1)), ("open", 1, 1)])
        spread = turn_spread((0, 3), turning)
        self.tells((1, 2, 4, 5), spread.begin)
        self.tells([("open", 0, 0), ("order", (0, 2, 1, 3, 4)), ("open", 1, 1),
                    ("open", 4, 3), ("order", (0, 1, 2, 3, 4, 6, 5)), ("open", 5, 4)], spread.steps())
        self.tells((0, 1, 3, 2, 3, 4, 6, 5), spread.end)
        self.assertTrue(turn_spread(turning=turning, rack=(0, 3)) == spread)

    def test_closes(self):
        turning = tip_fork_turning((0, 2, 5), [("close", 0, 0), ("open", 1, 4)])
        spread = turn_spread((2, 0, 1), turning)
        self.tells([("close", 0, 2), ("open", 1, 6), ("close", 3, 0), ("open", 4, 4), ("close", 6, 1), ("open", 7, 5)],
                   spread.steps())
        self.tells((3, 6, 8, 1, 4, 6, 2, 5, 7), spread.end)

    def test_begins_ends_and_things(self):
        for makers in ALL_MAKERS:
            forest = Forest(makers)
            for turning in some_turnings(makers):
                for rack in ((), (0,), (1,), (2, 0), (0, 0, 1)):
                    self.check_spread(forest, rack, turning)

    def check_spread(self, forest, rack, turning):
        spread = turn_spread(rack, turning)
        kind = turning.kind
        self.assertTrue(spread.kind == kind)
        self.tells(put_times(rack, turning.begin), spread.begin)
        self.tells(put_times(rack, turning.end), spread.end)
        self.assertEqual(len(rack) * len(turning), len(spread))
        for thing in forest.things_up_to(rack, 3):
            for other in forest.things_up_to(turning.begin, 3):
                start = paired(kind, rack, turning.begin, thing, other)
                told = paired(kind, rack, turning.end, thing, turning.run(other))
                self.tells(told, spread.run(start))
                self.tells(start, spread.back(told))
        for put in forest.things_up_to(spread.end, 3):
            thing, other = unpaired(kind, rack, turning.end, put)
            self.tells(paired(kind, rack, turning.begin, thing, turning.back(other)), spread.back(put))

    def test_racks_of_no_trees_and_of_no_forms(self):
        turning = tip_fork_turning((1,), [("open", 0, 0), ("order", (1, 0))])
        self.assertTrue(turn_spread((0,), turning) == turning)
        none = turn_spread((), turning)
        self.tells(((), (), []), (none.begin, none.end, none.steps()))
        self.assertTrue(turn_spread((0, 0), turning) == turn_beside(turning, turning))
        empty = turn_spread((1, 2), tip_fork_turning((), [("order", ())]))
        self.tells(((), (), [("order", ()), ("order", ())]), (empty.begin, empty.end, empty.steps()))
        still = turn_spread((1, 2), tip_fork_turning((3, 0), []))
        self.tells(((4, 1, 5, 2), (4, 1, 5, 2), []), (still.begin, still.end, still.steps()))

    def test_no_rack_first(self):
        turning = tip_fork_turning((200,) * 4000, [])
        for rack in no_racks():
            with self.subTest(repr(rack)[:60]):
                self.refused_both(NoRack, turn_spread, rack=rack, turning=turning)

    def test_too_many_forms(self):
        there_and_back = tip_fork_turning((1,), [("open", 0, 0), ("close", 0, 0)])
        self.refused_both(TooMuch, turn_spread, rack=(0,) * 4000, turning=there_and_back)
        self.tells(3999, len(turn_spread((0,) * 3999, there_and_back).end))
        opened = tip_fork_turning((1,), [("open", 0, 0)])
        self.tells((0, 2) * 2000, turn_spread((0,) * 2000, opened).end)
        self.refused(TooMuch, turn_spread, (0,) * 2001, opened)
        self.refused(TooMuch, turn_spread, (0,) * 2001, opened.turned())
        self.tells((1,) * 2000, turn_spread((0,) * 2000, opened.turned()).end)
        self.refused(TooMuch, turn_spread, (0,) * 41, tip_fork_turning((0,) * 100, []))
        self.refused(TooMuch, turn_spread, (0,) * 4000, tip_fork_turning((1,) * 4000, []))

    def test_too_many_forms_in_the_middle(self):
        # From one form to three and to one again: all that many on the way, whichever form it is of.
        turning = tip_fork_turning((1,), [("open", 0, 0), ("open", 1, 0), ("close", 1, 0), ("close", 0, 0)])
        self.tells(3998, len(turn_spread((0,) * 3998, turning).end))
        self.refused(TooMuch, turn_spread, (0,) * 3999, turning)
        # The last form is done where the others have come to their ends already.
        growing = tip_fork_turning((1,), [("open", 0, 0), ("open", 1, 0), ("close", 1, 0)])
        self.tells(3998, len(turn_spread((0,) * 1999, growing).end))
        self.refused(TooMuch, turn_spread, (0,) * 2000, growing)
        # The first one where the others are at their begins.
        closing = tip_fork_turning((0, 2), [("open", 1, 0), ("close", 1, 0), ("close", 0, 0)])
        self.tells(1999, len(turn_spread((0,) * 1999, closing).end))
        self.refused(TooMuch, turn_spread, (0,) * 2000, closing)

    def test_too_many_trees(self):
        there_and_back = tip_fork_turning((1,), [("open", 0, 0), ("close", 0, 0)])
        self.tells((199, 1), turn_spread((198, 0), there_and_back).end)
        for rack in ((199,), (0, 199), (199, 0)):
            self.refused(TooMuch, turn_spread, rack, there_and_back)
        self.refused(TooMuch, turn_spread, (200,), there_and_back)
        self.refused(TooMuch, turn_spread, (100,), tip_fork_turning((101,), []))
        self.tells((200,), turn_spread((100,), tip_fork_turning((100,), [])).end)


class TrimmedTest(Checks):

    def check_trimmed(self, turning):
        """Trimmed, with the same ends and some of the steps, each of which can be done, and no rack twice."""
        told = trimmed(turning)
        self.assertIs(Turning, type(told))
        self.assertTrue(told.kind == turning.kind)
        self.tells((turning.begin, turning.end), (told.begin, told.end))
        racks = told.racks()
        self.assertEqual(len(racks), len(set(racks)))
        rack = turning.begin
        for step in told.steps():
            self.tells(True, can_do(turning.kind, rack, step))
            rack = rack_after(turning.kind, rack, step)
        self.tells(turning.end, rack)
        left = iter(turning.steps())
        for step in told.steps():
            self.assertTrue(any(step == other for other in left))
        self.assertTrue(trimmed(turning=turning) == told)
        return told

    def test_nothing_to_trim(self):
        turning = tip_fork_turning((1,), [("open", 0, 0), ("open", 1, 1), ("order", (2, 0, 1))])
        self.tells(turning.steps(), self.check_trimmed(turning).steps())
        self.tells([], self.check_trimmed(tip_fork_turning((1, 2), [])).steps())
        self.tells([], self.check_trimmed(tip_fork_turning((), [])).steps())

    def test_round_in_a_circle(self):
        kind = tip_fork()
        turning = tip_fork_turning((1,), [("open", 0, 0), ("open", 1, 1), ("close", 1, 1), ("close", 0, 0)])
        self.tells([], self.check_trimmed(turning).steps())
        self.tells([], self.check_trimmed(join(turning, turning)).steps())
        more = join(turning, Turning(kind, (1,), [("open", 0, 0), ("order", (1, 0))]))
        self.assertEqual(2, len(self.check_trimmed(more)))
        self.assertEqual((2, 0), more.end)

    def test_orders_that_change_nothing(self):
        for steps in ([("order", (0, 1, 2))], [("order", (1, 0, 2))], [("order", (1, 0, 2)), ("order", (0, 1, 2))]):
            self.tells([], self.check_trimmed(tip_fork_turning((2, 2, 1), steps)).steps())
        turning = tip_fork_turning((2, 2, 1), [("order", (1, 0, 2)), ("order", (2, 0, 1)), ("order", (0, 2, 1))])
        self.tells((1, 2, 2), turning.end)
        self.assertEqual(1, len(self.check_trimmed(turning)))
        self.tells([], self.check_trimmed(tip_fork_turning((), [("order", ()), ("order", ())])).steps())

    def test_circles_within_circles(self):
        rack = (1, 1, 2)
        steps = [
            ("open", 0, 0), ("open", 2, 0), ("close", 2, 0), ("order", (2, 0, 1, 3)), ("order", (1, 2, 0, 3)),
            ("close", 0, 0),
            ("open", 1, 0), ("order", (0, 1, 2, 3)), ("open", 3, 1), ("close", 3, 0), ("close", 1, 0), ("open", 1, 0),
        ]
        told = self.check_trimmed(tip_fork_turning(rack, steps))
        self.assertEqual(1, len(told))

    def test_a_shorter_way_back_into_the_circle(self):
        # The rack (0, 2) comes three times, the rack (1,) twice.
        steps = [("open", 0, 0), ("close", 0, 0), ("open", 0, 0), ("open", 1, 1), ("close", 1, 1), ("order", (1, 0))]
        told = self.check_trimmed(tip_fork_turning((1,), steps))
        self.tells((2, 0), told.end)
        self.tells([("open", 0, 0), ("order", (1, 0))], told.steps())

    def test_all_sorts(self):
        for makers in ALL_MAKERS:
            for turning in some_turnings(makers):
                self.check_trimmed(turning)
                self.check_trimmed(turning.turned())
                self.tells([], self.check_trimmed(join(turning, turning.turned())).steps())
                for other in some_turnings(makers):
                    self.check_trimmed(turn_beside(turning, other))

    def test_the_turning_handed_in_stays(self):
        steps = [("open", 0, 0), ("close", 0, 0)]
        turning = tip_fork_turning((1,), steps)
        trimmed(turning).steps().append(None)
        self.tells(steps, turning.steps())

    def test_four_hundred_steps(self):
        turning = tip_fork_turning((1,), [("open", 0, 0), ("close", 0, 0)] * 200)
        self.tells([], self.quick(self.check_trimmed, turning).steps())


if __name__ == "__main__":
    unittest.main()
