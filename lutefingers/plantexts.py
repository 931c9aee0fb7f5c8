"""A plan's text."""


def write_row(stops, grip):
    parts = [str(grip[0])]
    for stop, finger in zip(stops, grip[1]):
        course = stop[0]
        parts.append(f"{course}:{finger}")
    return " ".join(parts)


def write_plan(moments, grips):
    """The bytes of the text of the plan with these grips, one for each moment."""
    rows = [write_row(moment.stops, grip) + "\n" for moment, grip in zip(moments, grips)]
    return [ord(sign) for sign in "".join(rows)]
