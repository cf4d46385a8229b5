"""The forms of the deeds by which a net is driven (points 212, 213 and 222)."""

NUMBER = "number"
NAME = "name"
DATA = "data"
FORMS = {
    "deliver": ("number", "number", "number"),
    "drop": ("number", "number", "number"),
    "repeat": ("number", "number", "number"),
    "move": ("number", "number", "number", "number"),
    "split": ("number", "number", "number", "number"),
    "join": ("number", "number", "number"),
    "change": ("number", "number", "number", "number", "number"),
    "carry": ("number", "number", "number", "number", "number"),
    "make": ("number", "number", "data"),
    "open": ("number", "number", "name", "name"),
    "post": ("number", "number", "data"),
    "fetch": ("number", "number"),
    "finish": ("number", "number"),
    "break": ("number", "number"),
    "tick": ("number", "number"),
    "power": ("number", "number"),
    "crash": ("number", "number", "number"),
}


def has_form(deed):
    """Return True if there is a deed of this name with so many parts, otherwise False."""
    return len(deed) > 0 and deed[0] in FORMS and len(deed) == 1 + len(FORMS[deed[0]])
