"""Texts of nets: what may stand where, and the inputs and gates that are told."""

from holegates.checks import is_name
from holegates.drawings import MOST_GATES, MOST_HOLES, MOST_INPUTS, MOST_SOURCES, holes_of, sure_wires, wires_of
from holegates.errors import BadText
from holegates.tables import count_places, table_told

# Each item is taken only if some net has a text that begins with all items up to it.
# So the inputs and gates that are read whole always make a net.


def net_told(text):
    """The inputs and the gates of the net that has this text."""
    if not isinstance(text, str):
        raise BadText(0, 0)
    words = text.split(" ")
    inputs = _read_inputs(words)
    gates = []
    at = len(inputs) + 1
    while at < len(words):
        if gates:
            _need(words[at] == "/" and len(gates) < MOST_GATES, at)
            at += 1
        name, sources, table = _read_gate(words, at, inputs, gates)
        gates.append((name, sources, table))
        at += 2 + len(sources)
    return inputs, gates


def _need(can_stand, at):
    if not can_stand:
        raise BadText(0, at)


def _word_at(words, at):
    _need(at < len(words), at)
    return words[at]


def _read_inputs(words):
    inputs = []
    at = 0
    while not inputs or _word_at(words, at) != ":":
        name = _word_at(words, at)
        _need(is_name(name) and name not in inputs and len(inputs) < MOST_INPUTS, at)
        inputs.append(name)
        at += 1
    return inputs


def _read_gate(words, at, inputs, gates):
    ahead = wires_of(inputs, gates)
    name = _word_at(words, at)
    _need(is_name(name) and name not in ahead, at)
    if _word_at(words, at + 1) == "?":
        _need(len(holes_of(gates)) < MOST_HOLES, at + 1)
        return name, _read_hole_sources(words, at + 2, sure_wires(inputs, gates)), None
    table = table_told(words[at + 1])
    _need(table is not None, at + 1)
    many = count_places(table)
    _need(many <= len(ahead) and many <= MOST_SOURCES, at + 1)
    return name, _read_sources(words, at + 2, ahead, many), table


def _read_sources(words, at, ahead, many):
    sources = []
    while len(sources) < many:
        _read_source(words, at + len(sources), ahead, sources)
    return sources


def _read_hole_sources(words, at, sure):
    sources = []
    while at + len(sources) < len(words) and words[at + len(sources)] != "/":
        _need(len(sources) < MOST_SOURCES, at + len(sources))
        _read_source(words, at + len(sources), sure, sources)
    return sources


def _read_source(words, at, known, sources):
    source = _word_at(words, at)
    _need(source in known and source not in sources, at)
    sources.append(source)
