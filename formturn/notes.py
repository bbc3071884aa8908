"""Forms written and read, and the table of a bar."""

from formturn.errors import NotWritten
from formturn.forms import require_form
from formturn.genus import genus_of
from formturn.group import rounds
from formturn.lists import classes
from formturn.whole import LOWEST_LISTED_BAR, require_bar_from, require_whole

FIGURES = "0123456789"
# Python itself writes and reads no number of more than 4300 figures at once, and joined forms may have more: so
# great numbers are written and read piece by piece.
PIECE = 64


def number_written(number):
    rest = abs(number)
    pieces = []
    while rest >= 10 ** 64:
        pieces.append(str(rest % 10 ** 64).zfill(PIECE))
        rest = rest // 10 ** 64
    pieces.append(str(rest))
    if number < 0:
        pieces.append("-")
    return "".join(reversed(pieces))


def number_of_figures(figures):
    head = len(figures) % PIECE
    found = int(figures[:head]) if head > 0 else 0
    for start in range(head, len(figures), PIECE):
        found = found * 10 ** 64 + int(figures[start:start + PIECE])
    return found


def are_figures(text):
    return text != "" and text[0] != "0" and all([sign in FIGURES for sign in text])


def number_read(text):
    if text == "0":
        return 0
    below = text.startswith("-")
    figures = text[1:] if below else text
    if not are_figures(figures):
        raise NotWritten("a number is 0, or figures, the first of them no 0, with - ahead or not")
    return -number_of_figures(figures) if below else number_of_figures(figures)


def within_brackets(text):
    if not isinstance(text, str):
        raise NotWritten("a form is read from a text")
    middle = text.strip(" ")
    if not (middle.startswith("[") and middle.endswith("]")):
        raise NotWritten("a form stands in brackets")
    return middle[1:-1]


def written(form):
    require_form(form)
    numbers = ", ".join([number_written(number) for number in form])
    return f"[{numbers}]"


def read(text):
    parts = within_brackets(text).split(",")
    if len(parts) != 3:
        raise NotWritten("a form has three numbers with two commas between")
    form = tuple([number_read(part.strip(" ")) for part in parts])
    require_form(form)
    return form


def row_written(number, cells, width):
    return str(number).zfill(3) + "".join([str(cell).rjust(width) for cell in cells])


def table(bar, width=6):
    require_bar_from(bar, LOWEST_LISTED_BAR)
    require_whole(width)
    ways = rounds(bar)
    found = []
    for number, form in enumerate(classes(bar), start=1):
        cells = [form[0], form[1], form[2], len(ways[form]), genus_of(form)]
        found.append(row_written(number, cells, width))
    return found
