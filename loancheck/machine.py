"""The machine, which runs code on cells (b3)."""

from loancheck.effects import argument_places
from loancheck.kinds import variable_kinds


def run(program, codes, name, choices, most):
    """(how it ended, the events) of a function without parameters, after so many instructions at most."""
    machine = Machine(program, codes, choices)
    machine.enter(name, None, [])
    for _ in range(most):
        machine.do_next()
        if machine.ended is not None:
            return (machine.ended, tuple(machine.events))
    return ("long", tuple(machine.events))


class Frame:
    """A function that runs: at is the number of its next instruction, target where its caller wants the result.

    What a place has is None, ("cell", number), or ("place", frame, place) where it points to a place of a frame.
    """

    def __init__(self, number, name, target):
        self.number = number
        self.name = name
        self.target = target
        self.at = 0
        self.has = {}
        self.flags = {}
        self.over = False

    def take_out(self, place):
        """What a place has, which is empty then."""
        worth = self.has.get(place)
        self.has[place] = None
        return worth


class Machine:
    """Cells, and the frames that have not ended; freed tells for each cell whether it was given back."""

    def __init__(self, program, codes, choices):
        self.codes = codes
        self.parameters = {function[0]: [name for name, kind in function[1]] for function in program}
        self.kinds = {function[0]: variable_kinds(program, number) for number, function in enumerate(program)}
        self.choices = choices
        self.chosen = 0
        self.frames = []
        self.entered = 0
        self.freed = []
        self.events = []
        self.ended = None

    def enter(self, name, target, arguments):
        frame = Frame(self.entered, name, target)
        self.entered += 1
        for parameter, worth in zip(self.parameters[name], arguments):
            frame.has[parameter] = worth
        for parameter in self.parameters[name]:
            frame.flags[parameter] = True
        self.frames.append(frame)

    def do_next(self):
        """Does one instruction."""
        frame = self.frames[-1]
        instruction = self.codes[frame.name][frame.at]
        frame.at += 1
        word = instruction[0]
        if word in ("read", "write", "free"):
            self.use_cell(frame, word, instruction[1])
        elif word in ("take", "move", "copy", "point", "empty"):
            self.fill(frame, instruction)
        elif word == "flag":
            frame.flags[instruction[1]] = instruction[2]
        elif word == "call":
            arguments = [frame.take_out(place) for place in argument_places(instruction[3])]
            self.enter(instruction[1], instruction[2], arguments)
        elif word == "leave":
            self.leave(frame)
        else:
            self.go(frame, instruction)

    def use_cell(self, frame, word, place):
        cell = self.cell_of(frame, place)
        if cell is None or self.freed[cell]:
            self.ended = "bad"
            return
        self.events.append((word, cell))
        if word == "free":
            self.freed[cell] = True
            frame.has[place] = None

    def cell_of(self, frame, place):
        """The number of the cell that a place has, or to which it leads by pointing; None if there is none."""
        worth = frame.has.get(place)
        seen = {}
        while worth is not None and worth[0] == "place":
            owner, place = worth[1], worth[2]
            # Places of codes that are written by hand could point to one another, round and round.
            if owner.over or (owner.number, place) in seen:
                return None
            seen[(owner.number, place)] = True
            worth = owner.has.get(place)
        if worth is None:
            return None
        return worth[1]

    def fill(self, frame, instruction):
        word, target = instruction[0], instruction[1]
        if word == "take":
            worth = ("cell", len(self.freed))
            self.freed.append(False)
            self.events.append(("take", worth[1]))
        elif word == "move":
            worth = frame.take_out(instruction[2])
        elif word == "empty":
            worth = None
        elif word == "point" and self.kinds[frame.name].get(instruction[2]) == "own":
            worth = ("place", frame, instruction[2])
        else:
            worth = frame.has.get(instruction[2])
        frame.has[target] = worth

    def go(self, frame, instruction):
        """Does a jump, a choose or an unless."""
        word = instruction[0]
        if word == "jump":
            frame.at = instruction[1]
        elif word == "choose" and self.next_choice() == 1:
            frame.at = instruction[1]
        elif word == "unless" and not frame.flags.get(instruction[1], False):
            frame.at = instruction[2]

    def next_choice(self):
        """The next choice; behind the last one that is given each one is 0."""
        if self.chosen >= len(self.choices):
            return 0
        self.chosen += 1
        return self.choices[self.chosen - 1]

    def leave(self, frame):
        frame.over = True
        self.frames.pop()
        if not self.frames:
            self.ended = "done"
        elif frame.target is not None:
            self.frames[-1].has[frame.target] = frame.has.get("#r")
