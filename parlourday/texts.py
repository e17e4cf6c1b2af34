"""Texts of setups, rules, rows of comers and bills, written and read back."""

from parlourday.errors import BadText
from parlourday.house import check_rule
from parlourday.reading import Reader, is_digit
from parlourday.setups import (
    LONGEST_ROW, MOST_LIFE, MOST_PORTIONS, MOST_PRICE, MOST_RULE_ROWS, MOST_SEATS, SEAT_DEEDS, check_setup,
)
from parlourday.tubs import TUB_DEEDS

NOTHING = "-"
NO_ROW = "none"
BAR = "|"


def spaced(parts):
    """The text of numbers or words, separated by blanks."""
    return " ".join([str(part) for part in parts])


def show_setup(setup):
    """The text of a setup."""
    seats, sizes, rooms, comers, kinds, life, prices = setup
    first = f"seats {seats} sizes {spaced(sizes)} rooms {spaced(rooms)} comers {spaced(comers)}"
    return f"{first} kinds {spaced(kinds)} life {life} prices {spaced(prices)}"


def show_span(span):
    """The text of a range."""
    low, high = span
    return f"{low}" if low == high else f"{low}-{high}"


def show_rule_row(row):
    """The text of a row of a half's rule."""
    spans = spaced([show_span(span) for span in row[1:5]])
    return f"{row[0]} {spans} {row[5]} {row[6]}"


def show_half(rule):
    """The text of a half's rule."""
    return "; ".join([show_rule_row(row) for row in rule]) if rule else NOTHING


def show_seats(seats):
    """The text of a seat rule."""
    return show_half(seats)


def show_tubs(tubs):
    """The text of a tub rule."""
    return show_half(tubs)


def show_comers(comers):
    """The text of comers."""
    groups, singles = comers
    return f"{unspaced(groups)}+{singles}"


def unspaced(numbers):
    """The text of numbers without anything between them."""
    return "".join([str(number) for number in numbers]) if numbers else NOTHING


def show_row(row):
    """The text of a row of comers."""
    return spaced([show_comers(comers) for comers in row]) if row else NO_ROW


def show_bill(bill):
    """The text of a bill."""
    deeds, empty, away, opened, served, unserved, melted = bill
    done = spaced([f"g{size}" if deed == "group" else "s" for deed, size in deeds]) if deeds else NOTHING
    first = f"{done} empty {empty} away {away} opened {unspaced(opened)}"
    return f"{first} served {served} unserved {unserved} melted {melted}"


def show_house(setup, rule):
    """The text of a setup and a rule."""
    check_setup(setup)
    check_rule(rule)
    return f"{show_setup(setup)} {BAR} {show_seats(rule[0])} {BAR} {show_tubs(rule[1])}"


def setup_in(reader):
    """Read a setup."""
    reader.wanted("seats")
    seats = reader.number(1, MOST_SEATS)
    reader.wanted("sizes")
    sizes = reader.choice(seats, "rooms")
    reader.wanted("rooms")
    rooms = (reader.number(1, 2), reader.number(0, 2))
    reader.wanted("comers")
    comers = (reader.number(0, 1), reader.number(0, 2))
    reader.wanted("kinds")
    kinds = reader.choice(MOST_PORTIONS, "life")
    reader.wanted("life")
    life = reader.number(1, MOST_LIFE)
    reader.wanted("prices")
    return (seats, sizes, rooms, comers, kinds, life, reader.numbers(4, 0, MOST_PRICE))


def half_in(reader, deeds, behind):
    """Read a half's rule with these deeds; behind is the word that has to come behind it, None for the end."""
    if reader.word() == NOTHING:
        reader.wanted(NOTHING)
        return ()
    rows = []
    more = True
    while more:
        if len(rows) == MOST_RULE_ROWS:
            raise BadText(reader.place)
        mood = reader.number(0, 2)
        spans = tuple([reader.span() for _ in range(4)])
        deed = reader.one_of(deeds)
        after, more = after_in(reader, behind)
        rows.append((mood,) + spans + (deed, after))
    return tuple(rows)


def after_in(reader, behind):
    """Read the last word of a row: the tuple (mood after, whether a further row has to come)."""
    word = reader.word()
    more = word is not None and word.endswith(";")
    digit = word[:-1] if more else word
    if not is_digit(digit, 0, 2):
        raise BadText(reader.place)
    if not more and reader.word(1) not in (None, behind):
        raise BadText(reader.place)
    reader.wanted(word)
    return (int(digit), more)


def read_setup(text):
    """The setup that a text writes."""
    reader = Reader(text)
    setup = setup_in(reader)
    reader.end()
    return setup


def read_half(text, deeds):
    """The half's rule, with these deeds, that a text writes."""
    reader = Reader(text)
    rule = half_in(reader, deeds, None)
    reader.end()
    return rule


def read_seats(text):
    """The seat rule that a text writes."""
    return read_half(text, SEAT_DEEDS)


def read_tubs(text):
    """The tub rule that a text writes."""
    return read_half(text, TUB_DEEDS)


def read_row(setup, text):
    """The row of comers of a setup that a text writes."""
    check_setup(setup)
    reader = Reader(text)
    row = []
    if reader.word() == NO_ROW:
        reader.wanted(NO_ROW)
        reader.end()
        return row
    row.append(reader.comers(setup))
    while reader.word() is not None:
        if len(row) == LONGEST_ROW:
            raise BadText(reader.place)
        row.append(reader.comers(setup))
    return row


def read_house(text):
    """The tuple (setup, rule) that a text writes."""
    reader = Reader(text)
    setup = setup_in(reader)
    reader.wanted(BAR)
    seats = half_in(reader, SEAT_DEEDS, BAR)
    reader.wanted(BAR)
    tubs = half_in(reader, TUB_DEEDS, None)
    reader.end()
    return (setup, (seats, tubs))
