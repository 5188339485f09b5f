"""A ship's sentence."""

from pilothall.printed import hundredths_text, sentence
from pilothall.tokens import SEMICOLON


class Ship:
    """A ship; lengths are centimetres, the block coefficient hundredths."""

    def __init__(self, name, kind):
        self.name = name
        self.kind = kind
        self.length = 0
        self.beam = 0
        self.draught = 0
        self.height = 0
        self.block = 0
        self.gross = 0
        self.board = 0


def read_ship(reader):
    reader.expect_word("ship")
    name = reader.read_name()
    reader.expect_word("kind")
    ship = Ship(name, reader.read_name())
    ship.length = reader.read_word_number("long", 2, 500, 50000)
    ship.beam = reader.read_word_number("beam", 2, 100, 10000)
    ship.draught = reader.read_word_number("draught", 2, 50, 3000)
    ship.height = reader.read_word_number("high", 2, 100, 10000)
    ship.block = reader.read_word_number("block", 2, 30, 95)
    ship.gross = reader.read_word_number("gross", 0, 1, 400000)
    ship.board = reader.read_word_number("board", 2, 0, 4000)
    reader.expect_sign(SEMICOLON)
    return ship


def ship_text(ship):
    return sentence([
        "ship", ship.name,
        "kind", ship.kind,
        "long", hundredths_text(ship.length),
        "beam", hundredths_text(ship.beam),
        "draught", hundredths_text(ship.draught),
        "high", hundredths_text(ship.height),
        "block", hundredths_text(ship.block),
        "gross", str(ship.gross),
        "board", hundredths_text(ship.board),
    ])
