"""Ways: rows of steps in the making."""

from boughswap.steps import forms_after


class Way:
    """Steps from a rack on; rack is the one behind those that are done."""

    def __init__(self, kind, rack):
        self.kind = kind
        self.rack = rack
        self.done = []

    def go(self, steps):
        """Does steps, each of which can be done behind those ahead of it."""
        for step in steps:
            self.rack = forms_after(self.kind, self.rack, step)
            self.done.append(step)

    def put(self, wished):
        """Puts the forms in the order of a rack of the same forms."""
        if self.rack != wished:
            self.go([("order", _places_for(self.rack, wished))])


def _places_for(rack, wished):
    """Where each of the wished forms stands in a rack of the same forms."""
    places = {}
    for place, form in reversed(list(enumerate(rack))):
        places.setdefault(form, []).append(place)
    return tuple([places[form].pop() for form in wished])
