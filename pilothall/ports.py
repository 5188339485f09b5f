"""A port's text. Of all that it tells only the names of its legs are asked for later."""

from pilothall.reader import CANT_STAND, OUT_OF_BOUNDS, Reader
from pilothall.tokens import PERCENT, SEMICOLON

MOST_GAUGES = 8
MOST_STREAMS = 8
MOST_PLACES = 24
MOST_LEGS = 32


class Port:
    """The names that the port has told so far, each sort in its order."""

    def __init__(self):
        self.gauges = []
        self.streams = []
        self.places = []
        self.legs = []


def read_head(reader):
    reader.expect_word("port")
    reader.read_name()
    reader.read_word_number("keep", 2, 0, 1000)
    reader.read_word_number("or", 0, 0, 100)
    reader.expect_sign(PERCENT)
    reader.expect_sign(SEMICOLON)


def read_water(reader, port):
    reader.read_signed_number(2, -1000, 10000)
    if not reader.took_word("gauge"):
        return
    reader.read_known_name(port.gauges)
    if reader.took_word("late"):
        reader.read_signed_number(0, -720, 720)
    if reader.took_word("ratio"):
        reader.read_number(1, 1, 3000)
        reader.expect_sign(PERCENT)
    if reader.took_word("plus"):
        reader.read_signed_number(2, -1000, 1000)


def read_place(reader, port):
    port.places.append(reader.read_new_name(port.places, MOST_PLACES))
    if reader.took_word("depth"):
        read_water(reader, port)


def read_leg_ends(reader, port):
    reader.expect_word("from")
    start = reader.read_known_name(port.places)
    reader.expect_word("to")
    if reader.known_name_here(port.places) == start:
        reader.refuse(OUT_OF_BOUNDS)
    reader.advance()


def read_leg_choices(reader, port):
    """What may be left out of a leg's sentence."""
    if reader.took_word("under"):
        reader.read_number(2, 100, 10000)
    if reader.took_word("stream"):
        reader.read_known_name(port.streams)
        reader.read_word_number("within", 2, 1, 2000)
    reader.took_word("confined")
    if not reader.took_word("oneway") and reader.took_word("meet"):
        reader.read_number(2, 100, 20000)
    if reader.took_word("apart"):
        reader.read_number(0, 0, 600)
    reader.took_word("day")


def read_leg(reader, port):
    port.legs.append(reader.read_new_name(port.legs, MOST_LEGS))
    read_leg_ends(reader, port)
    reader.read_word_number("miles", 2, 1, 9999)
    reader.expect_word("depth")
    read_water(reader, port)
    reader.read_word_number("wide", 2, 100, 500000)
    reader.read_word_number("fast", 1, 10, 300)
    read_leg_choices(reader, port)


def read_sentence(reader, port):
    if reader.took_word("gauge"):
        port.gauges.append(reader.read_new_name(port.gauges, MOST_GAUGES))
    elif reader.took_word("stream"):
        port.streams.append(reader.read_new_name(port.streams, MOST_STREAMS))
    elif reader.took_word("place"):
        read_place(reader, port)
    elif reader.took_word("leg"):
        read_leg(reader, port)
    else:
        reader.refuse(CANT_STAND)
    reader.expect_sign(SEMICOLON)


def read_port(told):
    reader = Reader(told)
    port = Port()
    read_head(reader)
    while not reader.is_at_end():
        read_sentence(reader, port)
    return port
