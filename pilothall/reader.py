"""A text read token by token, from the left, up to the first one at which it can't go on."""

from pilothall.days import DAY_MINUTES
from pilothall.faults import Fault
from pilothall.tokens import COMMA, DAY, END, MINUS, NONE, NUMBER, SIGN, TENS, TIME, WORD, token_at

NO_TOKEN = 1
CANT_STAND = 2
NOT_TOLD = 3
TOLD_TWICE = 4
OUT_OF_BOUNDS = 5
TOO_MANY = 6

NO_NAMES = (
    "port", "keep", "or", "gauge", "stream", "place", "leg", "from", "to", "miles", "depth", "late", "ratio",
    "plus", "wide", "fast", "under", "within", "confined", "meet", "oneway", "apart", "day", "curve", "light",
    "closed", "ship", "kind", "long", "beam", "draught", "high", "block", "gross", "board", "plan", "of", "at",
    "wait",
)
MOST_LEGS_IN_ROW = 8


class Reader:
    """The text, and the token at which it stands. All reading methods go on behind what they read."""

    def __init__(self, told):
        self.told = told
        self.token = token_at(told, 0)

    def advance(self):
        self.token = token_at(self.told, self.token.behind)

    def refuse(self, kind):
        # What is no token is told as such, whatever else would be wrong with it.
        if self.token.form == NONE:
            raise Fault(NO_TOKEN, self.token.place)
        raise Fault(kind, self.token.place)

    def expect_form(self, form):
        if self.token.form != form:
            self.refuse(CANT_STAND)

    def is_at_end(self):
        return self.token.form == END

    def expect_end(self):
        self.expect_form(END)

    def is_at_sign(self, sign):
        return self.token.form == SIGN and self.token.value == sign

    def took_sign(self, sign):
        """Goes on behind the sign if it stands there; tells whether it did."""
        if not self.is_at_sign(sign):
            return False
        self.advance()
        return True

    def expect_sign(self, sign):
        if not self.took_sign(sign):
            self.refuse(CANT_STAND)

    def is_at_word(self, word):
        return self.token.form == WORD and self.token.value == word

    def took_word(self, word):
        """Goes on behind the word if it stands there; tells whether it did."""
        if not self.is_at_word(word):
            return False
        self.advance()
        return True

    def expect_word(self, word):
        if not self.took_word(word):
            self.refuse(CANT_STAND)

    def name_here(self):
        """The name that stands there; it is not gone on, for the name may yet be at fault."""
        self.expect_form(WORD)
        if self.token.value in NO_NAMES:
            self.refuse(CANT_STAND)
        return self.token.value

    def read_name(self):
        name = self.name_here()
        self.advance()
        return name

    def read_new_name(self, names, most):
        """A name that isn't among these, of which there may be so many."""
        name = self.name_here()
        if name in names:
            self.refuse(TOLD_TWICE)
        if len(names) >= most:
            self.refuse(TOO_MANY)
        self.advance()
        return name

    def known_name_here(self, names):
        name = self.name_here()
        if name not in names:
            self.refuse(NOT_TOLD)
        return name

    def read_known_name(self, names):
        name = self.known_name_here(names)
        self.advance()
        return name

    def read_known_name_if_room(self, names, count, most):
        """A name of these, at which one thing more begins; count are there, most there may be."""
        name = self.known_name_here(names)
        if count >= most:
            self.refuse(TOO_MANY)
        self.advance()
        return name

    def read_leg_row(self, legs):
        row = []
        while len(row) == 0 or self.took_sign(COMMA):
            self.known_name_here(legs)
            row.append(self.read_new_name(row, MOST_LEGS_IN_ROW))
        return row

    def scaled_here(self, decimals):
        """The number that stands there, in units of so many decimals; None if it has more of them."""
        self.expect_form(NUMBER)
        if self.token.decimals > decimals:
            return None
        return self.token.value * TENS[decimals - self.token.decimals]

    def read_number(self, decimals, least, most):
        value = self.scaled_here(decimals)
        if value is None or value < least or value > most:
            self.refuse(OUT_OF_BOUNDS)
        self.advance()
        return value

    def read_signed_number(self, decimals, least, most):
        """A number that may have a - before it, at which it is then told if it is out of its bounds."""
        place = self.token.place
        is_below = self.took_sign(MINUS)
        value = self.scaled_here(decimals)
        if value is not None and is_below:
            value = -value
        if value is None or value < least or value > most:
            raise Fault(OUT_OF_BOUNDS, place)
        self.advance()
        return value

    def read_word_number(self, word, decimals, least, most):
        self.expect_word(word)
        return self.read_number(decimals, least, most)

    def read_day(self, least):
        self.expect_form(DAY)
        day = self.token.value
        if day < least:
            self.refuse(OUT_OF_BOUNDS)
        self.advance()
        return day

    def time_here(self):
        self.expect_form(TIME)
        return self.token.value

    def read_time(self):
        minute = self.time_here()
        self.advance()
        return minute

    def read_moment(self, least_day):
        day = self.read_day(least_day)
        return day * DAY_MINUTES + self.read_time()

    def read_later_moment(self, least, most):
        """A moment within these bounds; the fault is at its day, but told once its time is read."""
        place = self.token.place
        moment = self.read_moment(0)
        if moment < least or moment > most:
            raise Fault(OUT_OF_BOUNDS, place)
        return moment
