"""The machine: it runs code, of which plainspeak/compiling.py tells, in steps.

All values that the machine can still come to lie on its stack, or are held by things that can be reached from there:
so it is the stack from which what is in the heap is moved together.
"""

from plainspeak.errors import NoRoom, NotDone
from plainspeak.heap import EMPTY, Heap
from plainspeak.showing import value_text
from plainspeak.sums import is_by_nought, sum_of

LEAST_ROOM = 8
GREATEST_ROOM = 400
MOST_PENDING = 40

ENDING_ORDERS = ("tell", "skip", "slide")


class Machine:
    # Of the function that is being reckoned the stack holds what lies from the base on. Of each pending call is kept
    # with which order, and with which base, the machine goes on behind it.
    def __init__(self, code, room):
        if room < LEAST_ROOM or room > GREATEST_ROOM:
            raise NoRoom("a machine's room is from 8 to 400")
        self.code = list(code)
        self.heap = Heap(room)
        self.stack = []
        self.base = 0
        self.place = 0
        self.pending = []
        self.standing = "running"

    def run(self, steps):
        left = steps
        while left > 0 and self.standing == "running":
            do_step(self)
            left -= 1
        return self.standing

    def collect(self):
        self.stack = self.heap.move_together(self.stack)
        return self.heap.used()

    def made(self):
        return self.heap.made()

    def used(self):
        return self.heap.used()

    def shown(self):
        if self.standing != "done":
            raise NotDone("the machine has come to no value")
        return value_text(self.heap, self.stack[0])


# A step is one order, with those right behind it that only end parts: a part that has come to its value is ended, so
# that what it alone held can't be reached behind the step.
def do_step(machine):
    do_order(machine)
    while machine.standing == "running" and machine.code[machine.place][0] in ENDING_ORDERS:
        do_order(machine)


def do_order(machine):
    order = machine.code[machine.place]
    machine.place += 1
    ORDERS[order[0]](machine, order)


def put(machine, order):
    machine.stack.append(order[1])


def put_nil(machine, order):
    machine.stack.append(EMPTY)


def put_slot(machine, order):
    machine.stack.append(in_slot(machine, order[1]))


def in_slot(machine, slot):
    return machine.stack[machine.base + slot]


def reckon_sum(machine, order):
    other = machine.stack.pop()
    one = machine.stack.pop()
    if is_by_nought(order[0], other):
        machine.standing = "by nought"
    else:
        machine.stack.append(sum_of(order[0], one, other))


def turn_truth(machine, order):
    machine.stack.append(not machine.stack.pop())


def ask_empty(machine, order):
    machine.stack.append(machine.stack.pop() == EMPTY)


# A cell holds its head and its tail just as a pair holds its two.
def take_first(machine, order):
    take_held(machine, 0)


def take_second(machine, order):
    take_held(machine, 1)


def take_held(machine, which):
    holder = machine.stack.pop()
    if holder == EMPTY:
        machine.standing = "of empty"
    else:
        machine.stack.append(machine.heap.held_by(holder)[which])


# Whether one more thing has room. It is asked ahead of taking anything off the stack: what the thing is to hold must
# still be reached then, and is looked up only behind it, for it may have been moved.
def has_room(machine):
    if machine.heap.is_full():
        machine.collect()
    if machine.heap.is_full():
        machine.standing = "no room"
    return machine.standing == "running"


def make_cell(machine, order):
    make_of_two(machine, "cell")


def make_pair(machine, order):
    make_of_two(machine, "pair")


def make_of_two(machine, sort):
    if has_room(machine):
        second = machine.stack.pop()
        first = machine.stack.pop()
        machine.stack.append(machine.heap.make(sort, [first, second]))


def make_function(machine, order):
    if has_room(machine):
        kept = [in_slot(machine, slot) for slot in order[1]]
        machine.stack.append(machine.heap.make("function", [machine.place, order[0] == "rec"] + kept))
        machine.place += order[2]


# A pending call isn't ended, so that its function, and what that is handed, can be reached: they stay on the stack,
# right beneath the base, until the call's value is told.
def call(machine, order):
    if len(machine.pending) >= MOST_PENDING:
        machine.standing = "too deep"
        return
    machine.pending.append((machine.place, machine.base))
    machine.base = len(machine.stack)
    enter(machine, machine.stack[-2], machine.stack[-1])


def last_call(machine, order):
    handed = machine.stack.pop()
    function = machine.stack.pop()
    cut_stack(machine, machine.base)
    enter(machine, function, handed)


def enter(machine, function, handed):
    held = machine.heap.held_by(function)
    machine.place = held[0]
    machine.stack.extend(held[2:])
    if held[1]:
        machine.stack.append(function)
    machine.stack.append(handed)


def tell(machine, order):
    value = machine.stack.pop()
    if machine.pending:
        cut_stack(machine, machine.base - 2)
        went_on = machine.pending.pop()
        machine.place = went_on[0]
        machine.base = went_on[1]
    else:
        cut_stack(machine, 0)
        machine.standing = "done"
    machine.stack.append(value)


def cut_stack(machine, height):
    while len(machine.stack) > height:
        machine.stack.pop()


def pass_unless(machine, order):
    if not machine.stack.pop():
        machine.place += order[1]


def pass_over(machine, order):
    machine.place += order[1]


def slide(machine, order):
    value = machine.stack.pop()
    machine.stack.pop()
    machine.stack.append(value)


ORDERS = {
    "put": put,
    "nil": put_nil,
    "get": put_slot,
    "cons": make_cell,
    "head": take_first,
    "tail": take_second,
    "empty": ask_empty,
    "pair": make_pair,
    "first": take_first,
    "second": take_second,
    "plus": reckon_sum,
    "minus": reckon_sum,
    "times": reckon_sum,
    "over": reckon_sum,
    "rest": reckon_sum,
    "less": reckon_sum,
    "same": reckon_sum,
    "not": turn_truth,
    "fn": make_function,
    "rec": make_function,
    "call": call,
    "last call": last_call,
    "tell": tell,
    "unless": pass_unless,
    "skip": pass_over,
    "slide": slide,
}
