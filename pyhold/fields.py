"""The kinds of objects and controls, and what their fields are."""

# The letters are those of the table of frames (pyhold.frames), and F for frames.
OBJECTS = {
    "list": "V",
    "tuple": "V",
    "dict": "W",
    "scope": "Xttbt",
    "func": "xtXtta",
    "class": "xbX",
    "inst": "aX",
    "bound": "vv",
    "iter": "vnn",
    "gen": "xxF",
}

CONTROLS = {
    "eval": "ta",
    "exec": "ta",
    "store": "tva",
    "call": "vVX",
    "resume": "axv",
    "value": "v",
    "done": "",
    "leave": "s",
    "give": "v",
    "ask": "xV",
}
