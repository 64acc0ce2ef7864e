"""The texts of days and of local times."""

from guestcopies.days import date_of, day_of
from guestcopies.errors import NoDate, NoText

DAY_MINUTES = 1440


def are_figures(text):
    """Whether a text has figures 0 to 9 only, and at least one."""
    return text.isascii() and text.isdigit()


def show_day(day):
    """The text of a day, as 2026-03-09."""
    year, month, date = date_of(day)
    return f"{year:04d}-{month:02d}-{date:02d}"


def read_day(text):
    """The day whose text this is; NoText where it is that of none."""
    # The length comes first: int() refuses texts of very many figures.
    if not isinstance(text, str) or len(text) != 10:
        raise NoText(0)
    parts = (text[:4], text[5:7], text[8:])
    if text[4] != "-" or text[7] != "-" or not all([are_figures(part) for part in parts]):
        raise NoText(0)
    date = tuple([int(part) for part in parts])
    try:
        return day_of(date)
    except NoDate:
        raise NoText(0) from None


def show_minute(minute):
    """The text of a minute of the day, as 07:05."""
    hours, minutes = divmod(minute, 60)
    return f"{hours:02d}:{minutes:02d}"


def read_minute(text):
    """The minute of the day whose text this is; NoText where it is that of none."""
    if not isinstance(text, str) or len(text) != 5:
        raise NoText(0)
    if text[2] != ":" or not are_figures(text[:2]) or not are_figures(text[3:]):
        raise NoText(0)
    hours, minutes = int(text[:2]), int(text[3:])
    if hours > 23 or minutes > 59:
        raise NoText(0)
    return 60 * hours + minutes


def show_time(time):
    """The text of a local time, as 2026-03-09 07:05."""
    day, minute = divmod(time, DAY_MINUTES)
    return f"{show_day(day)} {show_minute(minute)}"


def read_time(text):
    """The local time whose text this is; NoText where it is that of none."""
    if not isinstance(text, str) or text[10:11] != " ":
        raise NoText(0)
    return DAY_MINUTES * read_day(text[:10]) + read_minute(text[11:])
