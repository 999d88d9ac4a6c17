"""Code: compiled tells the code of a part, a list of orders to a machine with a stack.

Of each function that is being reckoned, and of the program, the stack holds the names in scope and the values that
were reckoned so far, in the order in which they came. A slot is a place among these, counted from the lowest. The
machine begins with the first order and an empty stack. The orders:

- ("put", value) lays a number or a truth on the stack, ("nil",) the empty list, ("get", slot) what is in the slot.
- ("cons",), ("plus",), ("not",) and so on, for each word that only makes one value of others, take these off the
  stack, the last one uppermost, and lay that value on it.
- ("fn", slots, size) and ("rec", slots, size) lay on the stack a function that keeps what is in the slots. Its own code
  is the next so many orders, which are passed over.
- ("call",) goes to the code of a function, which lies on the stack right beneath what it is handed. Both stay there
  while the call is pending. Above them comes what the stack holds of the function: the lowest is what it keeps, then,
  of a rec, the function itself, then what it is handed.
- ("last call",) does this too, but it takes both off the stack, and all that the stack held of the function that it
  stands in is gone then.
- ("tell",) ends a function: all that the stack held of it and of its pending call is gone, and its uppermost value is
  laid on the stack as the value of the call. Where no call is pending the program is done.
- ("unless", size) takes a truth off the stack and passes over the next so many orders if it is false, ("skip", size)
  passes over them always, ("slide",) takes away what lies right beneath the uppermost.
"""

from plainspeak.fitting import kind_of
from plainspeak.naming import looked_up, names_bound, outside_names, with_name
from plainspeak.words import values_behind


def compiled(part):
    # What doesn't fit gets no code, so that no order ever meets a value of another kind than it needs.
    kind_of(part)
    return code_of(part, {}, 0, True)


def operands_code(part, slots, height):
    code = []
    for count, inner in enumerate(values_behind(part, "part")):
        code.extend(code_of(inner, slots, height + count, False))
    return code


def call_code(part, slots, height, last):
    order = ("last call",) if last else ("call",)
    return operands_code(part, slots, height) + [order]


# What and and or leave unreckoned an if leaves too.
def as_if(part):
    if part[0] == "and":
        return ("if", part[1], part[2], ("truth", False))
    if part[0] == "or":
        return ("if", part[1], ("truth", True), part[2])
    return part


def if_code(part, slots, height, last):
    choice = as_if(part)
    first = code_of(choice[1], slots, height, False)
    second = code_of(choice[2], slots, height, last)
    third = code_of(choice[3], slots, height, last)
    # In last place the second ends the function, so that nothing goes on behind it.
    if not last:
        second.append(("skip", len(third)))
    return first + [("unless", len(second))] + second + third


def let_code(part, slots, height, last):
    first = code_of(part[2], slots, height, False)
    # The first one's value stays where it was laid: that is the name's slot.
    second = code_of(part[3], with_name(slots, part[1], height), height + 1, last)
    if not last:
        second.append(("slide",))
    return first + second


# In last place the code of these ends the function by itself, with a last call or within the parts in last place.
PLACED_CODES = {"call": call_code, "if": if_code, "and": if_code, "or": if_code, "let": let_code}


def function_code(part, slots):
    kept = outside_names(part)
    bound = names_bound(part)
    # Where rec's two names are the same, the inner one hides the function from its own part: it's a fn like any other.
    if bound[0] == bound[-1]:
        bound = bound[:1]
    inner = {}
    for slot, name in enumerate(kept + bound):
        inner[name] = slot
    body = code_of(part[-1], inner, len(inner), True)
    word = "fn" if len(bound) == 1 else "rec"
    return [(word, tuple([looked_up(slots, name) for name in kept]), len(body))] + body


def value_code(part, slots):
    word = part[0]
    if word == "nil":
        return [("nil",)]
    if word == "name":
        return [("get", looked_up(slots, part[1]))]
    return [("put", part[1])]


# The height is how much the stack holds of the function so far, that is, the slot of what is laid on it next.
def code_of(part, slots, height, last):
    word = part[0]
    if word in PLACED_CODES:
        return PLACED_CODES[word](part, slots, height, last)
    if word in ("fn", "rec"):
        code = function_code(part, slots)
    elif word in ("num", "truth", "name", "nil"):
        code = value_code(part, slots)
    else:
        code = operands_code(part, slots, height) + [(word,)]
    return code + [("tell",)] if last else code
