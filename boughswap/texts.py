"""Kinds, trees, racks, things, steps, polynomials and verdicts as texts, and read from them."""

from boughswap.errors import NoKind, NoText
from boughswap.figures import number_text, numbers_text, read_count, read_number, read_numbers
from boughswap.kinds import Kind
from boughswap.polys import is_poly
from boughswap.racks import is_rack, is_thing, need_rack, trees_of
from boughswap.ratios import is_fraction
from boughswap.trees import is_tree, row_of

NOUGHT = (0, 1)


def kind_text(kind):
    """The text of a kind, as "tip 0, fork 2"."""
    return ", ".join([f"{name} {many}" for name, many in kind.makers()])


def read_kind(text):
    """The kind that a text writes."""
    _need_text(text)
    makers = []
    for part in text.split(", "):
        name, _, many = part.partition(" ")
        makers.append((name, read_number(many)))
    try:
        return Kind(makers)
    except NoKind:
        raise NoText("these makers make no kind") from None


def tree_text(kind, tree):
    """The text of a tree, as "fork(tip,fork(tip,tip))"."""
    # From right to left the trees within a maker are behind it, and written already.
    texts = []
    for maker in reversed(tree):
        within = [texts.pop() for _ in range(kind.within(maker))]
        brackets = "(" + ",".join(within) + ")" if within else ""
        texts.append(kind.name(maker) + brackets)
    return texts[0]


def read_tree(kind, text):
    """The tree of the kind that a text writes."""
    _need_text(text)
    numbers = {name: number for number, (name, many) in enumerate(kind.makers())}
    names = text.replace("(", ",").replace(")", ",").split(",")
    tree = tuple([numbers.get(name) for name in names if name])
    # The names alone make the tree; that the signs between them stand right, writing it again shows.
    if not is_tree(kind, tree) or tree_text(kind, tree) != text:
        raise NoText("this writes no tree of the kind")
    return tree


def rack_text(rack):
    """The text of a rack, as "0 2 1"."""
    return numbers_text(rack)


def read_rack(text):
    """The rack that a text writes."""
    _need_text(text)
    rack = read_numbers(text)
    if not is_rack(rack):
        raise NoText("these numbers are no rack")
    return rack


def thing_text(kind, rack, thing):
    """The text of a thing, as "2 tip fork(tip,tip)"."""
    trees = [tree_text(kind, tree) for tree in trees_of(kind, rack, thing)]
    return " ".join([number_text(thing[0])] + trees)


def read_thing(kind, rack, text):
    """The thing of the rack that a text writes."""
    need_rack(rack)
    _need_text(text)
    place, *words = text.split(" ")
    thing = (read_number(place), row_of([read_tree(kind, word) for word in words]))
    if not is_thing(kind, rack, thing):
        raise NoText("this writes no thing of the rack")
    return thing


def step_text(step):
    """The text of a step, as "open 0 1"."""
    word, *numbers = step
    if word == "order":
        numbers = step[1]
    return " ".join([word] + [number_text(number) for number in numbers])


def read_step(text):
    """The step that a text writes, whether it can be done anywhere or not."""
    _need_text(text)
    word, *words = text.split(" ")
    numbers = tuple([read_count(other) for other in words])
    if word == "order":
        return (word, numbers)
    if word not in ("open", "close") or len(numbers) != 2:
        raise NoText("this writes no step")
    return (word,) + numbers


def steps_text(steps):
    """The texts of steps, parted by line feeds."""
    return "\n".join([step_text(step) for step in steps])


def read_steps(text):
    """The list of the steps that a text writes."""
    _need_text(text)
    if text == "":
        return []
    return [read_step(line) for line in text.split("\n")]


def poly_text(one):
    """The text of a polynomial, as "1 -1 1"."""
    return numbers_text(one)


def read_poly(text):
    """The polynomial that a text writes."""
    _need_text(text)
    numbers = read_numbers(text)
    if not is_poly(numbers):
        raise NoText("the last number of a polynomial is not 0")
    return numbers


def verdict_text(verdict):
    """The text of a verdict: its words, then a line for each step, or for the quotient and the rest."""
    word, told = verdict
    if word == "alike":
        return "\n".join([word] + [step_text(step) for step in told])
    if word == "long":
        return word + " " + number_text(told)
    if told[0] == "fixed":
        return "parted fixed " + told[1]
    _, quotient, rest = told
    return "parted rest\nquotient " + _fractions_text(quotient) + "\nrest " + _fractions_text(rest)


def read_verdict(text):
    """The verdict that a text writes."""
    _need_text(text)
    first, *lines = text.split("\n")
    if first == "alike":
        return (first, [read_step(line) for line in lines])
    if first == "parted rest" and len(lines) == 2:
        return ("parted", ("rest", _read_line("quotient ", lines[0]), _read_line("rest ", lines[1])))
    if first in ("parted fixed first", "parted fixed second") and not lines:
        return ("parted", ("fixed", first.split(" ")[2]))
    if first.startswith("long ") and not lines:
        return ("long", read_count(first[len("long "):]))
    raise NoText("this writes no verdict")


def _need_text(thing):
    if not isinstance(thing, str):
        raise NoText("only a text can be read")


def _fractions_text(fractions):
    return " ".join([_fraction_text(one) for one in fractions]) or "-"


def _fraction_text(one):
    top, bottom = one
    if bottom == 1:
        return number_text(top)
    return number_text(top) + "/" + number_text(bottom)


def _read_line(word, line):
    """The fractions of a line that begins with a word and its blank."""
    if not line.startswith(word):
        raise NoText("a line of this verdict begins with another word")
    rest = line[len(word):]
    if rest == "-":
        return ()
    fractions = tuple([_read_fraction(part) for part in rest.split(" ")])
    if fractions[-1] == NOUGHT:
        raise NoText("the last fraction of a line is not 0")
    return fractions


def _read_fraction(text):
    top, slash, bottom = text.partition("/")
    if not slash:
        return (read_number(top), 1)
    one = (read_number(top), read_number(bottom))
    if one[1] == 1 or not is_fraction(one):
        raise NoText("a fraction is written in lowest terms, and 1 as its bottom isn't")
    return one
