import unittest

from pyhold.core import BUILT
from pyhold.library import built
from pyhold.signatures import SIGNATURES
from tests.heaps import NONE, YES, all_kinds, put
from tests.machines import fields, machine_of, raised
from tests.test_classes import METHODS

# The numbers of arguments that are taken, with the receiver of a method.
NUMBERS = {
    "len": (1,), "range": (1, 2), "repr": (1,), "str": (0, 1), "int": (0, 1), "list": (0, 1), "tuple": (0, 1),
    "dict": (0, 1), "iter": (1,), "next": (1, 2), "isinstance": (2,), "abs": (1,),
    "str.find": (2,), "str.replace": (3,), "str.split": (1, 2), "str.join": (2,), "str.startswith": (2,),
    "str.endswith": (2,), "str.strip": (1,), "str.upper": (1,), "str.lower": (1,), "str.isdigit": (1,),
    "list.append": (2,), "list.pop": (1, 2), "list.insert": (3,), "list.remove": (2,), "list.index": (2,),
    "list.count": (2,), "list.extend": (2,), "list.reverse": (1,), "list.copy": (1,), "list.clear": (1,),
    "tuple.index": (2,), "tuple.count": (2,),
    "dict.get": (2, 3), "dict.pop": (2, 3), "dict.setdefault": (3,), "dict.update": (2,), "dict.keys": (1,),
    "dict.values": (1,), "dict.items": (1,), "dict.copy": (1,), "dict.clear": (1,),
    "gen.send": (2,), "gen.close": (1,),
}

# The kinds that are taken at each place behind the receiver, where not all are.
TAKEN = {
    "range": (("int", "bool"), ("int", "bool")), "int": (("int", "bool", "str"),), "abs": (("int", "bool"),),
    "list": (("list", "tuple", "str", "range", "dict", "iterator", "generator", "Box", "KeyError"),),
    "tuple": (("list", "tuple", "str", "range", "dict", "iterator", "generator", "Box", "KeyError"),),
    "dict": (("dict",),), "isinstance": (None, ("class",)),
    "str.find": (("str",),), "str.replace": (("str",), ("str",)), "str.split": (("str",),),
    "str.join": (("list", "tuple"),), "str.startswith": (("str",),), "str.endswith": (("str",),),
    "list.insert": (("int", "bool"),), "list.extend": (("list", "tuple"),), "dict.update": (("dict",),),
}

RECEIVERS = {"str": "ab", "list": [1], "tuple": (1,), "dict": {1: 2}}


def call(name, count, named=()):
    machine = machine_of(frames=[("ret",)], out="a\n")
    args = ()
    if "." in name and count > 0:
        prefix = name.split(".")[0]
        if prefix == "gen":
            machine.heap.append(("gen", "g", "new", ()))
            args = (("ref", 17),)
        else:
            args = (put(machine.heap, RECEIVERS[prefix]),)
    args += (("span", 0, 1),) * (count - len(args))
    before = fields(machine)
    built(machine, name, args, named)
    return machine, before


class Arguments(unittest.TestCase):
    def test_all_are_told(self):
        methods = {kind + "." + x for kind, row in METHODS.items() for x in row.split()}
        self.assertEqual(set(SIGNATURES), set(NUMBERS) | {"print"})
        self.assertEqual(set(SIGNATURES), set(BUILT) | methods)

    def test_by_name(self):
        for name in SIGNATURES:
            for named in ((("a", NONE),), (("x", YES), ("y", NONE))):
                for count in range(5):
                    machine, before = call(name, count, named)
                    raised(self, machine, before, 10, name + "() takes no named arguments")

    def test_another_number(self):
        for name, counts in NUMBERS.items():
            for count in range(5):
                if count not in counts:
                    machine, before = call(name, count)
                    raised(self, machine, before, 10, name + "() takes a different number of arguments")

    def test_the_right_number(self):
        words = ("takes a different number", "takes no named")
        for name, counts in list(NUMBERS.items()) + [("print", range(7))]:
            for count in counts:
                machine, _ = call(name, count)
                for found in machine.heap:
                    if found[0] == "tuple" and found[1] and found[1][0][0] == "text":
                        self.assertFalse([part for part in words if part in found[1][0][1]], name)

    def test_kinds(self):
        heap, kinds = all_kinds()
        for name in TAKEN:
            for count in NUMBERS[name]:
                for value, kind in kinds:
                    self.check_kind(heap, name, count, value, kind)

    def check_kind(self, heap, name, count, value, kind):
        """A call with one value at all places behind the receiver."""
        machine = machine_of(list(heap))
        args = (value,) * count
        behind = count
        if "." in name:
            behind = count - 1
            args = (self.receiver(machine, name),) + args[1:]
        taken = [row is None or kind in row for row in TAKEN[name][:behind]]
        if all(taken):
            return
        before = fields(machine)
        built(machine, name, args, ())
        raised(self, machine, before, 10, name + "() cannot take " + kind)

    def receiver(self, machine, name):
        return put(machine.heap, RECEIVERS[name.split(".")[0]])

    def test_the_first_that_is_not_taken(self):
        for name, args, kind in (
                ("range", (1, "a"), "str"), ("range", (None, "a"), "NoneType"), ("str.replace", ("a", 1, None), "int"),
                ("str.replace", ("a", "b", None), "NoneType"), ("list.insert", ([], None, None), "NoneType"),
                ("isinstance", (None, 1), "int")):
            machine = machine_of()
            values = tuple([put(machine.heap, data) for data in args])
            before = fields(machine)
            built(machine, name, values, ())
            raised(self, machine, before, 10, name + "() cannot take " + kind)

    def test_kinds_come_ahead_of_all_else(self):
        machine = machine_of()
        machine.heap.append(("list", (NONE,) * 1000))
        full = ("ref", 17)
        for name, args, kind in (
                ("list.insert", (full, NONE, NONE), "NoneType"), ("list.extend", (full, ("text", "a")), "str"),
                ("str.replace", (("text", "a"), ("text", ""), NONE), "NoneType")):
            before = fields(machine)
            built(machine, name, args, ())
            raised(self, machine, before, 10, name + "() cannot take " + kind)


if __name__ == "__main__":
    unittest.main()
