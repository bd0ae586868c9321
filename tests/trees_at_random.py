"""Random programs, as `parse` gives them, with 0 for every line."""

NAMES = ("a", "b", "c", "f_1", "x")
TEXTS = ("", "it's", "a \"b\"", "\\n", "one\ntwo", "#")


def random_expression(chance, depth):
    if depth <= 0:
        return _leaf(chance)
    kind = chance.choice((
        "leaf", "neg", "not", "bin", "bin", "and", "or", "compare", "choice", "call", "attr",
        "item", "part", "tuple", "list", "dict"))
    made = [random_expression(chance, depth - chance.randint(1, 2)) for _ in range(4)]
    some = tuple(made[:chance.randint(0, 3)])
    if kind == "leaf":
        return _leaf(chance)
    if kind in ("neg", "not"):
        return (kind, made[0])
    if kind == "bin":
        return ("bin", chance.choice(("+", "-", "*", "//", "mod")), made[0], made[1])
    if kind in ("and", "or", "item"):
        return (kind, made[0], made[1])
    if kind in ("choice", "part"):
        return (kind, made[0], made[1], made[2])
    if kind == "attr":
        return ("attr", made[0], chance.choice(NAMES))
    if kind in ("tuple", "list"):
        return (kind, some)
    if kind == "dict":
        return ("dict", tuple((part, made[3]) for part in some))
    if kind == "compare":
        ops = ("==", "!=", "<", "<=", ">", ">=", "in", "notin", "is", "isnot")
        return ("compare", made[3], tuple((chance.choice(ops), part) for part in made[:1] + list(some)))
    named = tuple((name, made[2]) for name in NAMES[:chance.randint(0, 2)])
    return ("call", made[3], some, named)


def _leaf(chance):
    return chance.choice((
        ("name", chance.choice(NAMES)), ("const", ("int", chance.randint(0, 300))),
        ("const", ("text", chance.choice(TEXTS))), ("const", ("none",)), ("const", ("bool", True)),
        ("const", ("bool", False))))


def _target(chance, depth=2):
    kind = chance.choice(("name", "name", "attr", "item", "tuple"))
    if kind == "name" or depth == 0:
        return ("name", chance.choice(NAMES))
    if kind == "attr":
        return ("attr", random_expression(chance, 2), chance.choice(NAMES))
    if kind == "item":
        return ("item", random_expression(chance, 2), random_expression(chance, 2))
    return ("tuple", tuple(_target(chance, depth - 1) for _ in range(chance.randint(0, 3))))


def random_block(chance, depth, least=1):
    return tuple(_statement(chance, depth) for _ in range(chance.randint(least, 3)))


def _statement(chance, depth):
    kinds = ["do", "set", "change", "drop", "yield", "pass", "break", "continue", "return",
             "raise", "global", "nonlocal"]
    if depth > 0:
        kinds += ["if", "if", "while", "for", "def", "class", "try"]
    kind = chance.choice(kinds)
    value = random_expression(chance, 3)
    name = chance.choice(NAMES)
    if kind in ("pass", "break", "continue"):
        return (kind, 0)
    if kind in ("do", "return"):
        return (kind, 0, value)
    if kind == "raise":
        return (kind, 0, chance.choice((value, ())))
    if kind == "set":
        return (kind, 0, _target(chance), value)
    if kind == "yield":
        return (kind, 0, chance.choice(((), _target(chance))), value)
    if kind == "change":
        return (kind, 0, chance.choice(("+", "-", "*", "//")), ("name", name), value)
    if kind == "drop":
        return (kind, 0, chance.choice((("name", name), ("item", value, value))))
    if kind in ("global", "nonlocal"):
        return (kind, 0, tuple(chance.choice(NAMES) for _ in range(chance.randint(1, 3))))
    return _with_blocks(chance, kind, depth - 1, value, name)


def _with_blocks(chance, kind, depth, value, name):
    block = random_block(chance, depth)
    if kind == "if":
        return (kind, 0, value, block, random_block(chance, depth, 0))
    if kind == "while":
        return (kind, 0, value, block)
    if kind == "for":
        return (kind, 0, _target(chance), value, block)
    if kind == "def":
        params = tuple((x, chance.choice(((), value))) for x in NAMES[:chance.randint(0, 3)])
        return (kind, 0, name, params, block, ())
    if kind == "class":
        return (kind, 0, name, chance.choice(((), value)), block, ())
    handlers = [(0, value, chance.choice(("", name)), block) for _ in range(chance.randint(0, 2))]
    if chance.randint(0, 1):
        handlers.append((0, (), "", block))
    last = random_block(chance, depth, 0)
    if not handlers:
        last = block
    return (kind, 0, block, tuple(handlers), last)


def random_program(chance):
    return random_block(chance, 3, 0)
