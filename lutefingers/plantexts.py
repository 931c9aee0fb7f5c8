"""A plan's text, written and read."""

from lutefingers.texts import as_codes, as_text

SIGNS = "\n 0123456789:"
MOST_DIGITS = 3


# Raised where a text can't be that of a plan; line is the number of the first line that can't be so.
class NoPlanText(Exception):
    def __init__(self, line):
        self.line = line


def write_row(stops, grip):
    parts = [str(grip[0])]
    for stop, finger in zip(stops, grip[1]):
        course = stop[0]
        parts.append(f"{course}:{finger}")
    return " ".join(parts)


def write_plan(moments, grips):
    """The bytes of the text of the plan with these grips, one for each moment."""
    rows = [write_row(moment.stops, grip) + "\n" for moment, grip in zip(moments, grips)]
    return as_codes("".join(rows))


def is_number(text):
    if not text.isdigit() or len(text) > MOST_DIGITS:
        return False
    return text == "0" or text[0] != "0"


def read_finger(part, course):
    """The finger that a part of a row tells for this course; None if the part can't be so."""
    head = f"{course}:"
    if not part.startswith(head):
        return None
    number = part[len(head):]
    return int(number) if is_number(number) else None


def read_row(row, stops):
    """What a row tells in the place of a grip, any numbers; None if the row can't be so."""
    parts = row.split(" ")
    if len(parts) != 1 + len(stops) or not is_number(parts[0]):
        return None
    fingers = [read_finger(part, stop[0]) for part, stop in zip(parts[1:], stops)]
    if None in fingers:
        return None
    return (int(parts[0]), tuple(fingers))


def read_plan(moments, codes):
    """What the lines tell in the place of grips, one for each moment; NoPlanText if a line can't be so."""
    rows = as_text(codes, SIGNS).split("\n")
    # Behind the last line's end stands nothing, or a line that can't be so.
    ended = rows[:-1]
    told = []
    for number, row in enumerate(ended):
        grip = None
        if number < len(moments):
            grip = read_row(row, moments[number].stops)
        if grip is None:
            raise NoPlanText(number)
        told.append(grip)
    if len(ended) < len(moments) or rows[-1] != "":
        raise NoPlanText(len(ended))
    return told
