"""Turnings: rows of steps that lead each thing of a rack to just one thing of another, and back."""

from boughswap.errors import NoMatch, NoTurning, TooMuch
from boughswap.racks import MOST_FORMS, MOST_TREES, forms_fit, need_rack, need_thing, put_beside, put_times
from boughswap.steps import all_undone, forms_after, is_step_on, led_along

BEFORE_ALL = -1


class Turning:
    """A row of steps, each of which can be done on the rack behind those ahead of it."""

    def __init__(self, kind, rack, steps):
        need_rack(rack)
        if not isinstance(steps, list):
            raise NoTurning(BEFORE_ALL)
        self.kind = kind
        self.begin = rack
        self.end = _end_of(kind, rack, steps)
        self._steps = list(steps)

    def __eq__(self, other):
        return (
            isinstance(other, Turning) and self.kind == other.kind and self.begin == other.begin
            and self._steps == other._steps
        )

    def __len__(self):
        return len(self._steps)

    def steps(self):
        """The list of the steps."""
        return list(self._steps)

    def racks(self):
        """The list of all racks, from the first to the last."""
        out = [self.begin]
        for step in self._steps:
            out.append(forms_after(self.kind, out[-1], step))
        return out

    def run(self, thing):
        """The thing of the last rack to which a thing of the first one is led."""
        need_thing(self.kind, self.begin, thing)
        return led_along(self.kind, self._steps, thing)

    def back(self, thing):
        """The thing of the first rack that is led to a thing of the last one."""
        need_thing(self.kind, self.end, thing)
        return led_along(self.kind, all_undone(self._steps), thing)

    def turned(self):
        """The turning from the last rack to the first one that leads each thing back."""
        return Turning(self.kind, self.end, all_undone(self._steps))


def join(one, two):
    """The turning of one's steps, then two's."""
    _need_one_kind(one, two)
    if one.end != two.begin:
        raise NoMatch("one turning ends in another rack than that in which the other begins")
    return Turning(one.kind, one.begin, one.steps() + two.steps())


def turn_beside(one, two):
    """The turning that does one's steps on the forms ahead, then two's on those behind."""
    _need_one_kind(one, two)
    begin = put_beside(one.begin, two.begin)
    if _longest(one) + len(two.begin) > MOST_FORMS or len(one.end) + _longest(two) > MOST_FORMS:
        raise TooMuch("a rack on the way would have too many forms")
    steps = _steps_within(one, 0, len(two.begin), 0)
    return Turning(one.kind, begin, steps + _steps_within(two, len(one.end), 0, 0))


def turn_spread(rack, turning):
    """The turning that does a turning's steps on each form of a rack multiplied with it."""
    begin = put_times(rack, turning.begin)
    if rack:
        _need_room_to_spread(rack, turning)
    steps = []
    for place, form in enumerate(rack):
        ahead = place * len(turning.end)
        behind = (len(rack) - place - 1) * len(turning.begin)
        steps.extend(_steps_within(turning, ahead, behind, form))
    return Turning(turning.kind, begin, steps)


def trimmed(turning):
    """A turning of the same begin and end, of some of its steps, without a rack twice."""
    racks = turning.racks()
    kept = []
    # The place of each rack on the way so far; what leads round in a circle is left out.
    places = {turning.begin: 0}
    way = [turning.begin]
    for step, rack in zip(turning.steps(), racks[1:]):
        if rack in places:
            many = places[rack]
            for gone in way[many + 1:]:
                del places[gone]
            kept = kept[:many]
            way = way[:many + 1]
        else:
            places[rack] = len(way)
            kept.append(step)
            way.append(rack)
    return Turning(turning.kind, turning.begin, kept)


def _end_of(kind, rack, steps):
    """The rack behind all steps."""
    for at, step in enumerate(steps):
        if not is_step_on(kind, rack, step):
            raise NoTurning(at)
        rack = forms_after(kind, rack, step)
        if not forms_fit(rack):
            raise NoTurning(at)
    return rack


def _need_one_kind(one, two):
    if one.kind != two.kind:
        raise NoMatch("these turnings are of unlike kinds")


def _longest(turning):
    """The most forms of a rack on the way."""
    return max([len(rack) for rack in turning.racks()])


def _need_room_to_spread(rack, turning):
    """Refuses what would lead to a rack that is none on the way."""
    # All other forms of the rack come to as many forms as the begin, or the end, has.
    others = (len(rack) - 1) * max(len(turning.begin), len(turning.end))
    for way in turning.racks():
        if others + len(way) > MOST_FORMS or max(rack) + max(way, default=0) > MOST_TREES:
            raise TooMuch("a rack on the way would be too great")


def _steps_within(turning, ahead, behind, trees):
    """A turning's steps, done with so many forms ahead and behind, and so many trees ahead in each form."""
    out = []
    for step in turning.steps():
        if step[0] == "order":
            out.append(("order", _places_within(step[1], ahead, behind)))
        else:
            word, place, slot = step
            out.append((word, ahead + place, trees + slot))
    return out


def _places_within(places, ahead, behind):
    """An order's places where so many forms stand ahead and behind and stay."""
    end = ahead + len(places)
    moved = [ahead + place for place in places]
    return tuple(list(range(ahead)) + moved + list(range(end, end + behind)))
