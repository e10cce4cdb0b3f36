"""Nets, kindlings and what happened, written in rows, and stories read back."""

from emberlane.errors import NoText
from emberlane.needs import need_kindlings
from emberlane.nets import MOST_KINDLINGS, MOST_LAMPS, is_kindling_of_many, is_lamp_of_many, is_net, need_net

FIGURES = "0123456789"


def row_of_lamp(lamp):
    """A lamp's row, without its end."""
    length, onward = lamp
    place = "-" if onward is None else str(onward)
    return f"lamp {length} to {place}"


def row_of_kindling(kindling):
    """A kindling's row, without its end."""
    beat, lamp = kindling
    return f"kindle {beat} {lamp}"


def row_of_happening(row):
    """The row, without its end, of something that happened."""
    word, beat, lamp, flame = row[:4]
    text = f"{beat} {word} {lamp} {flame}"
    if word == "lost":
        return f"{text} to {row[4]}"
    return text


def ended_rows(rows):
    """The text of these rows, each with its end."""
    return "".join(row + "\n" for row in rows)


def show_net(net):
    """The net's rows."""
    need_net(net)
    return ended_rows([row_of_lamp(lamp) for lamp in net])


def show_kindlings(net, kindlings):
    """The kindlings' rows."""
    need_kindlings(net, kindlings)
    return ended_rows([row_of_kindling(kindling) for kindling in kindlings])


def show_happened(rows):
    """The rows of what happened, as an Embers tells it."""
    return ended_rows([row_of_happening(row) for row in rows])


def read_number(word):
    """The number that the word tells, or -1 where it tells none."""
    if word == "" or any(sign not in FIGURES for sign in word):
        return -1
    if word[0] == "0" and word != "0":
        return -1
    return int(word)


def take_lamp(words, lamps):
    """Put the lamp of these words behind the others, if a story goes on with it; told is whether one does."""
    if len(words) != 4 or words[2] != "to":
        return False
    onward = None if words[3] == "-" else read_number(words[3])
    lamp = (read_number(words[1]), onward)
    # The next one may be a lamp that stands behind: any that a net can have.
    if len(lamps) == MOST_LAMPS or not is_lamp_of_many(lamp, MOST_LAMPS):
        return False
    lamps.append(lamp)
    return True


def take_kindling(words, lamps, kindlings):
    """Put the kindling of these words behind the others, if a story goes on with it; told is whether one does."""
    if len(words) != 3 or len(kindlings) == MOST_KINDLINGS:
        return False
    kindling = (read_number(words[1]), read_number(words[2]))
    # No lamp comes behind a kindling, so the lamps have to be a whole net by now.
    if not is_net(tuple(lamps)) or not is_kindling_of_many(kindling, len(lamps)):
        return False
    kindlings.append(kindling)
    return True


def take_row(row, lamps, kindlings):
    """Take what the row tells, if a story goes on with it; told is whether one does."""
    words = row.split(" ")
    if words[0] == "lamp" and not kindlings:
        return take_lamp(words, lamps)
    if words[0] == "kindle":
        return take_kindling(words, lamps, kindlings)
    return False


def read_story(text):
    """The net and the kindlings that the text tells."""
    *rows, cut = text.split("\n")
    lamps = []
    kindlings = []
    for at, row in enumerate(rows):
        if not take_row(row, lamps, kindlings):
            raise NoText(at + 1)
    behind = len(rows) + 1
    if cut == "" and is_net(tuple(lamps)):
        return (tuple(lamps), kindlings)
    if take_row(cut, lamps, kindlings):
        # A last row that is right lacks nothing but its end, so it is the one behind it that is told.
        behind += 1
    raise NoText(behind)
