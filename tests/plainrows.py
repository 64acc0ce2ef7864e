"""Rows of the desk by one pattern for each."""

import re

from plaintexts import plain_day

WORD = "[a-z]{1,8}"
DAY = "[0-9]{4}-[0-9]{2}-[0-9]{2}"
NUMBER = "[1-9][0-9]{0,8}"
SLOT = f"{DAY} (?:[01][0-9]|2[0-3]):[0-5][0-9] {NUMBER}"
BOOK_FORM = re.compile(rf"book {WORD}((?: {WORD})*)\n(?:.|\n)*")
FORMS = [re.compile(form) for form in (
    rf"tell {WORD}\n(?:.|\n)*", rf"change {WORD} {DAY} (?:back|off|is {SLOT} {WORD})", rf"(?:end|calls|show|offers|lost) {WORD}",
    rf"invite {WORD} {WORD}", rf"(?:accept|deny) {WORD} {WORD} {DAY}", rf"(?:seat|wish|see|versions) {WORD} {WORD} {WORD}",
    rf"answer {WORD} {WORD} {WORD} (?:{DAY}|all) (?:yes|no|perhaps)", rf"offer {WORD} {WORD} {WORD} {DAY} {SLOT}",
    rf"bring {NUMBER}", rf"words {WORD} {DAY}", "waiting")]


def is_row(row):
    """Whether the desk knows such a row."""
    found = BOOK_FORM.fullmatch(row)
    if found:
        guests = found[1].split()
        return len(guests) <= 12 and len(set(guests)) == len(guests)
    if not any(form.fullmatch(row) for form in FORMS):
        return False
    line = row.partition("\n")[0]
    days = [plain_day(text) for text in re.findall(DAY, line)]
    lengths = [int(text) for text in re.findall(rf":[0-5][0-9] ({NUMBER})", line)]
    return all(day is not None and 2 <= day <= 99990 for day in days) and all(length <= 1440 for length in lengths)
