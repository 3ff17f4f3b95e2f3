"""Reports: the ticks of a room as text, and back."""

from warmswitch.errors import InvalidReport
from warmswitch.rooms import check_ticks

MOST_ROWS = 500
HEADER = "                tick         degrees heater"
LINE_WIDTH = 43


def report(room, first, last):
    """Return the text of the ticks of a room from the first to the last one."""
    check_ticks(first, last, MOST_ROWS)
    lines = [HEADER]
    for tick in range(first, last + 1):
        lines.append(report_line(tick, room.temperature(tick), room.is_on(tick)))
    return "\n".join(lines)


def report_line(tick, degrees, on):
    """Return the line of a tick; it is wider than others if a number is wider than its column."""
    word = "on" if on else "off"
    return f"{tick:>20,}{degrees:>16,} {word:<6}"


def parse_report(text):
    """Return a list of (tick, temperature, whether the heater is on) of a report."""
    lines = text.split("\n")
    if lines[0] != HEADER:
        raise InvalidReport(0)
    found = []
    for row, line in enumerate(lines[1:], 1):
        parts = parts_of_line(line)
        if parts is None:
            raise InvalidReport(row)
        found.append(parts)
    return found


def parts_of_line(line):
    """Return the tick, the temperature and whether the heater is on; None if a line is ill-formed."""
    if len(line) != LINE_WIDTH:
        return None
    tick = number_in(line[:20])
    degrees = number_in(line[20:36])
    if tick is None or degrees is None:
        return None
    on = line[36:].strip() == "on"
    # Spaces, commas and words are right if, and only if, these parts are written like this line.
    if line != report_line(tick, degrees, on):
        return None
    return tick, degrees, on


def number_in(column):
    """Return the number in a column, whatever its commas are, or None."""
    try:
        number = int(column.replace(",", ""))
    except ValueError:
        return None
    return number
