"""How things are printed."""


def hundredths_text(value):
    return str(value // 100) + "." + str(value % 100).zfill(2)


def row_text(names):
    return " , ".join(names)


def sentence(parts):
    """A sentence in its line: its tokens with a blank between, a blank, ; and the line's end."""
    return " ".join(parts) + " ;\n"


def text_bytes(text):
    return [ord(sign) for sign in text]
