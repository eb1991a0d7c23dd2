"""The machine that does code.

A value of the machine is a tuple of two: the value shown, made at once since
it could not be walked through later without meeting one part many times, and
what the machine needs of it beside that: of a pair or a link its two values, of
a function where it begins, what it has, and whether it is a rec.
"""

from kindspan.errors import Stuck
from kindspan.ops import reckoned


class Machine:
    # The place is that of the step behind the one that is being done.

    def __init__(self, code):
        self.code = code
        self.place = 0
        self.pile = []
        self.held = ()
        self.behind = []
        self.calls = 0

    def fetch(self):
        if self.place >= len(self.code):
            raise Stuck("a step that is not there")
        self.place += 1
        return self.code[self.place - 1]

    def take(self):
        if not self.pile:
            raise Stuck("too few values on the pile")
        return self.pile.pop()

    def take_sort(self, words):
        value = self.take()
        if value[0][0] not in words:
            raise Stuck("a value of another kind")
        return value

    def put(self, value, inner):
        self.pile.append((value, inner))

    def hold(self, values):
        self.held = self.held + values

    def check_held(self, least):
        if len(self.held) < least:
            raise Stuck("too few held values")

    def skip(self, further):
        self.place += further

    def enter(self, begin, held):
        self.behind.append((self.place, self.held))
        self.place = begin
        self.held = held
        self.calls += 1

    def go_back(self):
        if not self.behind:
            raise Stuck("nothing to go back to")
        entry = self.behind.pop()
        self.place = entry[0]
        self.held = entry[1]


def do_itself(machine, step):
    machine.put(step, ())


def do_name(machine, step):
    machine.check_held(step[1] + 1)
    machine.pile.append(machine.held[-1 - step[1]])


def do_function(machine, step):
    machine.put(("fun",), (machine.place, machine.held, step[0] == "rec"))
    machine.skip(step[1])


def do_two(machine, step):
    other = machine.take()
    one = machine.take()
    machine.put((step[0], one[0], other[0]), (one, other))


def do_op(machine, step):
    other = machine.take()
    one = machine.take()
    machine.put(reckoned(step[1], one[0], other[0]), ())


def do_call(machine, step):
    value = machine.take()
    function = machine.take_sort(("fun",))
    inner = function[1]
    machine.enter(inner[0], inner[1] + ((function, value) if inner[2] else (value,)))


def do_back(machine, step):
    machine.go_back()


def do_let(machine, step):
    machine.hold((machine.take(),))


def do_open(machine, step):
    machine.hold(machine.take_sort(("pair",))[1])


def do_drop(machine, step):
    machine.check_held(step[1])
    machine.held = machine.held[:len(machine.held) - step[1]]


def do_jump(machine, step):
    machine.skip(step[1])


def do_when(machine, step):
    if not machine.take_sort(("truth",))[0][1]:
        machine.skip(step[1])


def do_split(machine, step):
    whole = machine.take_sort(("empty", "link"))
    if whole[0][0] == "link":
        machine.hold(whole[1])
        machine.skip(step[1])


RULES = {
    "number": do_itself,
    "truth": do_itself,
    "empty": do_itself,
    "name": do_name,
    "fun": do_function,
    "rec": do_function,
    "pair": do_two,
    "link": do_two,
    "op": do_op,
    "call": do_call,
    "back": do_back,
    "let": do_let,
    "open": do_open,
    "drop": do_drop,
    "jump": do_jump,
    "when": do_when,
    "split": do_split,
}


def done(code, most):
    machine = Machine(code)
    while machine.calls <= most:
        step = machine.fetch()
        if step[0] == "end":
            return (machine.take()[0], machine.calls)
        RULES[step[0]](machine, step)
    return None
