"""Between bytes and texts."""

# Stands for every byte that is none of the signs asked for, so it must never be one of these.
NO_SIGN = "?"


def as_text(codes, signs):
    """The bytes as a text, sign by sign, with NO_SIGN where a byte is none of these signs."""
    known = {}
    for sign in signs:
        known[ord(sign)] = sign
    return "".join([known.get(code, NO_SIGN) for code in codes])


def as_codes(text):
    return [ord(sign) for sign in text]
