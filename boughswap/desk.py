"""The desk: kinds, racks and turnings kept by names, and rows in which they are told and asked of."""

from boughswap.classes import comes_again, count_to, wanting
from boughswap.decide import are_alike, parting_paper, turning_between
from boughswap.errors import NoName, NoRow, NoText
from boughswap.figures import number_text, numbers_text, read_count
from boughswap.judge import fault_of
from boughswap.kinds import Kind, is_name
from boughswap.noughts import contrary_of
from boughswap.racks import put_beside, put_times
from boughswap.tables import are_same
from boughswap.texts import rack_text, read_kind, read_rack, read_thing, read_verdict
from boughswap.texts import steps_text, thing_text, verdict_text
from boughswap.turnings import Turning, join

# What stands for a line feed in rows and answers.
PARTING = "; "

# What the words behind the first word of a row are.
SLOTS = {
    "kind": ("new", "kind text"),
    "rack": ("new", "rack text"),
    "beside": ("new", "rack", "rack"),
    "times": ("new", "rack", "rack"),
    "contrary": ("new", "kind", "rack"),
    "wanting": ("new", "kind", "rack", "rack"),
    "show": ("rack",),
    "alike": ("kind", "rack", "rack"),
    "turn": ("new", "kind", "rack", "rack"),
    "parted": ("kind", "rack", "rack"),
    "judge": ("kind", "rack", "rack", "verdict text"),
    "steps": ("turning",),
    "ends": ("turning",),
    "back": ("new", "turning"),
    "join": ("new", "turning", "turning"),
    "same": ("turning", "turning"),
    "run": ("turning", "begin text"),
    "unrun": ("turning", "end text"),
    "again": ("kind", "number"),
    "count": ("kind", "rack", "number"),
    "names": (),
}


def _kept(thing):
    return thing


def _beside(one, two):
    return put_beside(one, two)


def _times(one, two):
    return put_times(one, two)


def _contrary(kind, rack):
    return contrary_of(kind, rack)


def _wanting(kind, one, two):
    return wanting(kind, one, two)


def _show(rack):
    return rack_text(rack)


def _alike(kind, one, two):
    return "yes" if are_alike(kind, one, two) else "no"


def _turn(kind, one, two):
    return turning_between(kind, one, two)


def _parted(kind, one, two):
    paper = parting_paper(kind, one, two)
    if paper is None:
        return "none"
    return _in_a_row(verdict_text(("parted", paper)))


def _judge(kind, one, two, verdict):
    fault = fault_of(kind, one, two, verdict)
    if fault is None:
        return "good"
    word, *numbers = fault
    return " ".join([word] + [number_text(number) for number in numbers])


def _steps(turning):
    return _in_a_row(steps_text(turning.steps())) or "-"


def _ends(turning):
    return rack_text(turning.begin) + PARTING + rack_text(turning.end)


def _back(turning):
    return turning.turned()


def _join(one, two):
    return join(one, two)


def _same(one, two):
    return "yes" if are_same(one, two) else "no"


def _run(turning, thing):
    return thing_text(turning.kind, turning.end, turning.run(thing))


def _unrun(turning, thing):
    return thing_text(turning.kind, turning.begin, turning.back(thing))


def _again(kind, most):
    pair = comes_again(kind, most)
    return "none" if pair is None else numbers_text(pair)


def _count(kind, rack, size):
    return number_text(count_to(kind, rack, size))


# What is done with what these words lead to; only the row of all names is answered by the desk itself.
DEEDS = {
    "kind": _kept, "rack": _kept, "beside": _beside, "times": _times, "contrary": _contrary, "wanting": _wanting,
    "show": _show, "alike": _alike, "turn": _turn, "parted": _parted, "judge": _judge, "steps": _steps,
    "ends": _ends, "back": _back, "join": _join, "same": _same, "run": _run, "unrun": _unrun, "again": _again,
    "count": _count,
}


class Desk:
    """Keeps kinds, racks and turnings by names."""

    def __init__(self):
        self._things = {}

    def say(self, row):
        """Tells the desk a row; its answer is a text."""
        words = _words_of(row)
        first = words[0]
        if first == "names":
            return " ".join(sorted(self._things)) or "-"
        given = []
        for slot, word in zip(SLOTS[first], words[1:]):
            given.append(self._led_to(slot, word, given))
        deed = DEEDS[first]
        if SLOTS[first][0] != "new":
            return deed(*given)
        name, *others = given
        self._things[name] = deed(*others)
        return "ok"

    def _led_to(self, slot, word, given):
        """What a word of a row leads to, or writes; given are those of the words ahead of it."""
        if slot == "new":
            return _new_name(word)
        if slot == "number":
            return read_count(word)
        if slot.endswith(" text"):
            return _read(slot, word, given)
        thing = self._things.get(word)
        if not _is_sort(slot, thing):
            raise NoName("this name leads to no " + slot)
        return thing


def _words_of(row):
    """The words of a row; a text is one of them, whatever blanks it has."""
    if not isinstance(row, str):
        raise NoRow("only a text is told to a desk")
    first = row.split(" ")[0]
    if first not in SLOTS:
        raise NoRow("no row begins with this word")
    many = len(SLOTS[first])
    has_text = many > 0 and SLOTS[first][many - 1].endswith(" text")
    words = row.split(" ", many) if has_text else row.split(" ")
    if len(words) != many + 1:
        raise NoRow("a row with this first word has another number of words")
    return words


def _new_name(word):
    if not is_name(word):
        raise NoName("a name has one to eight small letters")
    return word


def _is_sort(sort, thing):
    if sort == "kind":
        return isinstance(thing, Kind)
    if sort == "rack":
        return isinstance(thing, tuple)
    return isinstance(thing, Turning)


def _read(slot, text, given):
    """The thing that the text of a row writes."""
    if slot == "kind text":
        return read_kind(text)
    if slot == "rack text":
        return read_rack(text)
    if slot == "begin text":
        return read_thing(given[0].kind, given[0].begin, text)
    if slot == "end text":
        return read_thing(given[0].kind, given[0].end, text)
    if "\n" in text:
        raise NoText("a line feed stands in a row as a semicolon and a blank")
    return read_verdict(text.replace(PARTING, "\n"))


def _in_a_row(text):
    return text.replace("\n", PARTING)
