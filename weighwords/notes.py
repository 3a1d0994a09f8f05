"""Notes: shares as texts, and texts as shares."""

from weighwords.errors import NoText
from weighwords.shares import is_share

_FIGURES = "0123456789"
_MOST_FIGURES = 60


def _written_number(number):
    if number < 0:
        return "-" + _written_number(-number)
    # By blocks, because Python's str refuses numbers of very many figures.
    blocks = []
    while number >= 10 ** 60:
        number, block = divmod(number, 10 ** 60)
        blocks.append(str(block).zfill(60))
    blocks.append(str(number))
    return "".join(blocks[::-1])


def written(part):
    """The text of a share."""
    top, bottom = part
    if bottom == 1:
        return _written_number(top)
    return _written_number(top) + "/" + _written_number(bottom)


def _read_number(text):
    figures = text.removeprefix("-")
    if len(figures) < 1 or len(figures) > _MOST_FIGURES:
        raise NoText("a number has one to sixty figures")
    for figure in figures:
        if figure not in _FIGURES:
            raise NoText("a number has figures from 0 to 9 alone")
    return int(text)


def read(text):
    """The share of which the text is written; NoText, of anything else."""
    if type(text) != str:
        raise NoText("this is no text")
    top, stroke, bottom = text.partition("/")
    if stroke == "":
        bottom = "1"
    part = (_read_number(top), _read_number(bottom))
    # Writing it again tells off noughts ahead, -0 and a bottom of 1.
    if not is_share(part) or written(part) != text:
        raise NoText("this is not just what is written of a share")
    return part
