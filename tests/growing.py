"""How turnings that the program finds are checked."""

from boughswap.steps import can_do
from boughswap.turnings import Turning
from helping import Checks, Forest


class Growing(Checks):
    """Checks of turnings with bounds on the way."""

    def check_way(self, turning, begin, end, most_forms=2000):
        """From begin to end by steps that can be done, with no rack on the way that is too great."""
        self.assertIs(Turning, type(turning))
        self.tells((begin, end), (turning.begin, turning.end))
        racks = turning.racks()
        self.tells((begin, end), (racks[0], racks[-1]))
        for rack, step in zip(racks, turning.steps()):
            self.tells(True, can_do(turning.kind, rack, step))
        self.assertLessEqual(max([len(rack) for rack in racks]), most_forms)
        self.assertLessEqual(max([max(rack, default=0) for rack in racks]), 100)

    def check_things(self, turning, most):
        """Each small thing is led to one of the end, and back; no two to one."""
        forest = Forest(turning.kind.makers())
        told = [(thing, turning.run(thing)) for thing in forest.things_up_to(turning.begin, most)]
        for thing, led in told:
            self.tells(thing, turning.back(led))
        self.assertEqual(len(told), len({led for _, led in told}))
        for thing in forest.things_up_to(turning.end, most):
            self.tells(thing, turning.run(turning.back(thing)))
