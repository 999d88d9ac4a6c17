"""Kinds: "int", "bool", ("list", kind), ("pair", kind, kind) and ("fun", kind, kind)."""


def kind_text(kind):
    if isinstance(kind, str):
        return kind
    inside = " ".join([kind[0]] + [kind_text(inner) for inner in kind[1:]])
    return f"({inside})"
