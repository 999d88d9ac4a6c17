"""The desk: play does the rows of a text, with the machine that stands there, and lists their answers."""

from plainspeak.compiling import compiled
from plainspeak.errors import BadRow, BadText, NoMachine, NoName, NotDone, TooLong, Unfit
from plainspeak.fitting import kind_of
from plainspeak.kinds import kind_text
from plainspeak.machine import GREATEST_ROOM, LEAST_ROOM, Machine
from plainspeak.reading import read
from plainspeak.words import FIGURES

MOST_COUNT_FIGURES = 4
STEPS_OF_RUN = 20000


class Desk:
    def __init__(self):
        self.room = GREATEST_ROOM
        self.machine = None


def play(text):
    desk = Desk()
    return [row_answer(desk, row) for row in text.split("\n") if row.strip(" ") != ""]


def row_answer(desk, row):
    try:
        return done_row(desk, row)
    except BadRow:
        return refused("BadRow")
    except BadText as refusal:
        return refused_with("BadText", refusal.at)
    except NoName as refusal:
        return refused_with("NoName", refusal.name)
    except Unfit:
        return refused("Unfit")
    except NoMachine:
        return refused("NoMachine")
    except NotDone:
        return refused("NotDone")
    except TooLong:
        return refused("TooLong")


def refused(name):
    return f"refused: {name}"


def refused_with(name, field):
    return f"refused: {name} {field}"


def set_room(desk, count):
    if count < LEAST_ROOM or count > GREATEST_ROOM:
        raise BadRow("a room is from 8 to 400")
    desk.room = count
    return "ok"


def go_on(desk, count):
    return standing_machine(desk).run(count)


COUNT_ROWS = {"room": set_room, "go": go_on}


def tell_kind(desk, text):
    return kind_text(kind_of(read(text)))


def begin(desk, text):
    desk.machine = machine_of(desk, text)
    return "ok"


def run_alone(desk, text):
    machine = machine_of(desk, text)
    standing = machine.run(STEPS_OF_RUN)
    return machine.shown() if standing == "done" else standing


TEXT_ROWS = {"kind": tell_kind, "begin": begin, "run": run_alone}


def move(desk):
    return str(standing_machine(desk).collect())


def show(desk):
    return standing_machine(desk).shown()


def tell_made(desk):
    return str(standing_machine(desk).made())


def tell_used(desk):
    return str(standing_machine(desk).used())


BARE_ROWS = {"move": move, "show": show, "made": tell_made, "used": tell_used}


def machine_of(desk, text):
    return Machine(compiled(read(text)), desk.room)


def standing_machine(desk):
    if desk.machine is None:
        raise NoMachine("no machine stands at the desk")
    return desk.machine


# What stands behind the first blank is told, be it the empty text: a word that stands alone has no blank behind it.
def done_row(desk, row):
    pieces = row.partition(" ")
    word = pieces[0]
    told = pieces[2]
    if pieces[1] == "" and word in BARE_ROWS:
        return BARE_ROWS[word](desk)
    if pieces[1] == " " and word in TEXT_ROWS:
        return TEXT_ROWS[word](desk, told)
    if pieces[1] == " " and word in COUNT_ROWS:
        return COUNT_ROWS[word](desk, read_count(told))
    raise BadRow("no row has this form")


def read_count(told):
    figures = all([sign in FIGURES for sign in told])
    if not figures or told == "" or told[0] == "0" or len(told) > MOST_COUNT_FIGURES:
        raise BadRow("a count is 1 to 4 figures, the first not 0")
    return int(told)
