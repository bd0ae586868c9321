"""From the tree of a program to its plain text."""

from pyhold.trees import NOTHING, blocks, with_blocks
from pyhold.words import quoted

# How strongly the parts of an expression hold together, in the order of t5. What
# stands neither here nor below is a PRIMARY.
CHOICE = 0
EITHER = 1
COMPARISON = 4
SUM = 5
TERM = 6
PRIMARY = 8

STRENGTHS = {"choice": 0, "or": 1, "and": 2, "not": 3, "compare": 4, "neg": 7}

COMPARISON_WORDS = {"notin": "not in", "isnot": "is not"}


def shown(program):
    """The plain text of a program."""
    return "".join([line + "\n" for line in _block_lines(program, 0)])


def without_lines(program):
    """The program with 0 in place of the number of each line."""
    return tuple([_without_line(statement) for statement in program])


def _without_line(statement):
    made = [without_lines(block) for block in blocks(statement)]
    renewed = with_blocks(statement, made)
    if renewed[0] == "try":
        handlers = tuple([(0,) + handler[1:] for handler in renewed[3]])
        renewed = renewed[:3] + (handlers, renewed[4])
    return (renewed[0], 0) + renewed[2:]


def _block_lines(block, depth):
    lines = []
    for statement in block:
        lines.extend(_statement_lines(statement, depth))
    return lines


def _statement_lines(statement, depth):
    kind = statement[0]
    if kind == "if":
        return _if_lines(statement, depth, "if")
    if kind == "try":
        return _try_lines(statement, depth)
    action = HEADS[kind]
    head = action(statement)
    made = blocks(statement)
    if made:
        return _headed_lines(head, made[0], depth)
    return [_indented(head, depth)]


def _headed_lines(head, block, depth):
    return [_indented(head + ":", depth)] + _block_lines(block, depth + 1)


def _indented(words, depth):
    return "    " * depth + words


def _if_lines(statement, depth, word):
    _, _, test, yes, no = statement
    lines = _headed_lines(word + " " + _text(test), yes, depth)
    if len(no) == 1 and no[0][0] == "if":
        lines.extend(_if_lines(no[0], depth, "elif"))
    elif no:
        lines.extend(_headed_lines("else", no, depth))
    return lines


def _try_lines(statement, depth):
    _, _, block, handlers, last = statement
    lines = _headed_lines("try", block, depth)
    for _, caught, name, taken in handlers:
        lines.extend(_headed_lines(_handler_head(caught, name), taken, depth))
    if last:
        lines.extend(_headed_lines("finally", last, depth))
    return lines


def _handler_head(caught, name):
    if caught == ():
        return "except"
    if name == "":
        return "except " + _text(caught)
    return "except " + _text(caught) + " as " + name


def _word_head(statement):
    return statement[0]


def _do_head(statement):
    return _text(statement[2])


def _set_head(statement):
    return _text(statement[2]) + " = " + _text(statement[3])


def _change_head(statement):
    _, _, op, target, value = statement
    return _text(target) + " " + op + "= " + _text(value)


def _drop_head(statement):
    return "del " + _text(statement[2])


def _yield_head(statement):
    _, _, target, value = statement
    words = _with_value("yield", value)
    if target == ():
        return words
    return _text(target) + " = " + words


def _return_head(statement):
    return _with_value("return", statement[2])


def _with_value(word, value):
    if value == NOTHING:
        return word
    return word + " " + _text(value)


def _raise_head(statement):
    if statement[2] == ():
        return "raise"
    return "raise " + _text(statement[2])


def _names_head(statement):
    return statement[0] + " " + ", ".join(statement[2])


def _while_head(statement):
    return "while " + _text(statement[2])


def _for_head(statement):
    return "for " + _text(statement[2]) + " in " + _text(statement[3])


def _def_head(statement):
    params = [_parameter(name, default) for name, default in statement[3]]
    return "def " + statement[2] + "(" + ", ".join(params) + ")"


def _parameter(name, default):
    if default == ():
        return name
    return name + "=" + _text(default)


def _class_head(statement):
    _, _, name, base, _, _ = statement
    if base == ():
        return "class " + name
    return "class " + name + "(" + _text(base) + ")"


def _text(tree):
    """The text of an expression in a place that allows every one."""
    return _text_within(tree, CHOICE)


def _text_within(tree, least):
    """The text of an expression in a place that asks for this strength."""
    action = TEXTS[tree[0]]
    text = action(tree)
    if _strength(tree) < least:
        return "(" + text + ")"
    return text


def _strength(tree):
    if tree[0] == "bin":
        return SUM if tree[1] in ("+", "-") else TERM
    return STRENGTHS.get(tree[0], PRIMARY)


def _const_text(tree):
    value = tree[1]
    if value[0] == "none":
        return "None"
    if value[0] == "text":
        return quoted(value[1])
    return str(value[1])


def _name_text(tree):
    return tree[1]


def _neg_text(tree):
    return "-" + _text_within(tree[1], PRIMARY)


def _not_text(tree):
    return "not " + _text_within(tree[1], COMPARISON)


def _bin_text(tree):
    _, op, one, other = tree
    strength = _strength(tree)
    return _text_within(one, strength) + " " + op + " " + _text_within(other, strength + 1)


def _joined_text(tree):
    """The text of parts joined by `and` or `or`, which are grouped to the left."""
    word, one, other = tree
    strength = _strength(tree)
    return _text_within(one, strength) + " " + word + " " + _text_within(other, strength + 1)


def _compare_text(tree):
    words = [_text_within(tree[1], SUM)]
    for op, part in tree[2]:
        words.append(COMPARISON_WORDS.get(op, op))
        words.append(_text_within(part, SUM))
    return " ".join(words)


def _choice_text(tree):
    test, yes, no = [_text_within(part, EITHER) for part in tree[1:]]
    return yes + " if " + test + " else " + no


def _call_text(tree):
    _, called, args, named = tree
    words = [_text(part) for part in args]
    words.extend([name + "=" + _text(part) for name, part in named])
    return _text_within(called, PRIMARY) + "(" + ", ".join(words) + ")"


def _attr_text(tree):
    return _text_within(tree[1], PRIMARY) + "." + tree[2]


def _item_text(tree):
    return _text_within(tree[1], PRIMARY) + "[" + _text(tree[2]) + "]"


def _part_text(tree):
    _, whole, low, high = tree
    return _text_within(whole, PRIMARY) + "[" + _bound_text(low) + ":" + _bound_text(high) + "]"


def _bound_text(tree):
    if tree == NOTHING:
        return ""
    return _text(tree)


def _tuple_text(tree):
    if len(tree[1]) == 1:
        return "(" + _text(tree[1][0]) + ",)"
    return "(" + _parts_text(tree) + ")"


def _list_text(tree):
    return "[" + _parts_text(tree) + "]"


def _parts_text(tree):
    return ", ".join([_text(part) for part in tree[1]])


def _dict_text(tree):
    pairs = [_text(key) + ": " + _text(value) for key, value in tree[1]]
    return "{" + ", ".join(pairs) + "}"


TEXTS = {
    "const": _const_text,
    "name": _name_text,
    "neg": _neg_text,
    "not": _not_text,
    "bin": _bin_text,
    "and": _joined_text,
    "or": _joined_text,
    "compare": _compare_text,
    "choice": _choice_text,
    "call": _call_text,
    "attr": _attr_text,
    "item": _item_text,
    "part": _part_text,
    "tuple": _tuple_text,
    "list": _list_text,
    "dict": _dict_text,
}

HEADS = {
    "do": _do_head,
    "set": _set_head,
    "change": _change_head,
    "drop": _drop_head,
    "yield": _yield_head,
    "pass": _word_head,
    "break": _word_head,
    "continue": _word_head,
    "return": _return_head,
    "raise": _raise_head,
    "while": _while_head,
    "for": _for_head,
    "def": _def_head,
    "class": _class_head,
    "global": _names_head,
    "nonlocal": _names_head,
}
