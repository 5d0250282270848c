"""Steps: one form of a rack opened into several, several closed into one, or all put in order."""

from boughswap.errors import NoStep, TooMuch
from boughswap.racks import forms_fit, need_rack, need_thing
from boughswap.trees import parts_of, row_of
from boughswap.wholes import is_whole


def can_do(kind, rack, step):
    """True where the thing step is a step that can be done on the rack."""
    need_rack(rack)
    return is_step_on(kind, rack, step)


def rack_after(kind, rack, step):
    """The rack behind a step."""
    if not can_do(kind, rack, step):
        raise NoStep("this step can't be done on the rack")
    forms = forms_after(kind, rack, step)
    if not forms_fit(forms):
        raise TooMuch("the rack behind this step would be too great")
    return forms


def led_to(kind, rack, step, thing):
    """The thing to which a step leads a thing of the rack."""
    rack_after(kind, rack, step)
    need_thing(kind, rack, thing)
    return led_along(kind, [step], thing)


def led_back(kind, rack, step, thing):
    """The thing of the rack that is led to a thing of the rack behind the step."""
    need_thing(kind, rack_after(kind, rack, step), thing)
    return led_along(kind, [way_back(step)], thing)


def undone(kind, rack, step):
    """The step that leads back from the rack behind a step."""
    rack_after(kind, rack, step)
    return way_back(step)


def opens_of(rack):
    """All open steps that can be done on the rack, by place and slot."""
    need_rack(rack)
    return [("open", place, slot) for place, form in enumerate(rack) for slot in range(form)]


def closes_of(kind, rack):
    """All close steps that can be done on the rack, by place and slot."""
    need_rack(rack)
    forms = [_form_closed(kind, rack, place) for place in range(len(rack))]
    return [("close", place, slot) for place, form in enumerate(forms) for slot in range(form)]


def is_step_on(kind, rack, thing):
    """True where the thing is a step that can be done on what is a rack."""
    if not isinstance(thing, tuple) or not thing or not isinstance(thing[0], str):
        return False
    if thing[0] == "order":
        return len(thing) == 2 and _are_places(rack, thing[1])
    if thing[0] not in ("open", "close") or len(thing) != 3:
        return False
    word, place, slot = thing
    if not is_whole(place, 0, len(rack) - 1):
        return False
    form = rack[place] if word == "open" else _form_closed(kind, rack, place)
    return is_whole(slot, 0, form - 1)


def forms_after(kind, rack, step):
    """The forms behind a step that can be done; they may be too many or too great for a rack."""
    if step[0] == "order":
        return tuple([rack[place] for place in step[1]])
    word, place, _ = step
    if word == "close":
        form = _form_closed(kind, rack, place)
        return rack[:place] + (form,) + rack[place + len(kind):]
    return rack[:place] + _forms_opened(kind, rack[place]) + rack[place + 1:]


def way_back(step):
    """The step that undoes a step."""
    if step[0] == "order":
        places = [0] * len(step[1])
        for new, old in enumerate(step[1]):
            places[old] = new
        return ("order", tuple(places))
    word, place, slot = step
    return ("close" if word == "open" else "open", place, slot)


def all_undone(steps):
    """The steps that undo a list of steps, the last one's first."""
    return [way_back(step) for step in reversed(steps)]


def led_along(kind, steps, thing):
    """The thing to which steps, each of which can be done behind those ahead, lead a thing."""
    place, row = thing
    trees = parts_of(kind, row)
    for step in steps:
        place, trees = led_by(kind, step, place, trees)
    return (place, row_of(trees))


def led_by(kind, step, place, trees):
    """The place and the trees to which a step leads those of a thing; holes may stand for trees."""
    if step[0] == "order":
        return (step[1].index(place), trees)
    if step[0] == "open":
        return _led_open(kind, step, place, trees)
    return _led_close(kind, step, place, trees)


def _led_open(kind, step, place, trees):
    """The place and the trees to which an open step leads those of a thing."""
    _, at, slot = step
    if place < at:
        return (place, trees)
    if place > at:
        return (place + len(kind) - 1, trees)
    tree = trees[slot]
    return (at + tree[0], trees[:slot] + parts_of(kind, tree[1:]) + trees[slot + 1:])


def _led_close(kind, step, place, trees):
    """The place and the trees to which a close step leads those of a thing."""
    _, at, slot = step
    if place < at:
        return (place, trees)
    if place >= at + len(kind):
        return (place - len(kind) + 1, trees)
    maker = place - at
    behind = slot + kind.within(maker)
    tree = (maker,) + row_of(trees[slot:behind])
    return (at, trees[:slot] + [tree] + trees[behind:])


def _forms_opened(kind, form):
    """The forms that come of a form by an open step."""
    return tuple([form - 1 + many for many in kind.withins()])


def _form_closed(kind, rack, place):
    """How many trees the form closed from this place on has; 0 where none can be closed."""
    form = rack[place] - kind.within(0) + 1
    if form < 1 or rack[place:place + len(kind)] != _forms_opened(kind, form):
        return 0
    return form


def _are_places(rack, things):
    """Whether the things are a tuple with each place of the rack just once."""
    if not isinstance(things, tuple) or not all([is_whole(thing, 0, None) for thing in things]):
        return False
    return sorted(things) == list(range(len(rack)))
