"""Runs programs straight along their graphs, with cells, to compare with what the machine does with their codes.

It knows nothing of codes, flags and blocks: an owner that has a value at its clear or end gives its cell back there.
"""

from loancheck.graphs import graph
from loancheck.rules import variables


class Wrong(Exception):
    """A cell is read, written or freed that is not there any more, or never was."""


class CellWalker:
    def __init__(self, program, choices):
        self.graphs = {head[0]: graph(program, number) for number, head in enumerate(program)}
        self.kinds = {head[0]: dict(variables(program, number)) for number, head in enumerate(program)}
        self.parameters = {head[0]: [name for name, kind in head[1]] for head in program}
        self.choices = list(choices)
        self.events = []
        self.freed = set()
        self.taken = 0

    def walk(self, name, most):
        """("done", what is handed back), or ("long", None) if the nodes are more."""
        frames = [{"name": name, "node": 0, "has": {}, "over": False}]
        for _ in range(most):
            frame = frames[-1]
            operation, followers = self.graphs[frame["name"]][frame["node"]]
            if operation[0] == "exit":
                frame["over"] = True
                frames.pop()
                if not frames:
                    return "done", frame["has"].get("#r")
                frames[-1]["has"][frames[-1]["target"]] = frame["has"].get("#r")
            elif operation[0] == "call":
                has = frame["has"]
                frame["target"] = operation[2]
                given = [has.pop(f"#{number}") for number in range(operation[3])]
                frame["node"] = followers[0]
                values = dict(zip(self.parameters[operation[1]], given))
                frames.append({"name": operation[1], "node": 0, "has": values, "over": False})
            else:
                frame["node"] = followers[self.choice(followers) if operation[0] == "choose" else 0]
                self.do(operation, frame)
        return "long", None

    def choice(self, followers):
        if len(followers) == 1 or not self.choices:
            return 0
        return self.choices.pop(0)

    def do(self, operation, frame):
        has = frame["has"]
        match operation:
            case ("new", target):
                has[target] = self.taken
                self.taken += 1
                self.events.append(("take", has[target]))
            case ("move", target, source):
                has[target] = has.pop(source)
            case ("copy", target, source):
                has[target] = has[source]
            case ("borrow", target, source, _):
                own = self.kinds[frame["name"]][source] == "own"
                has[target] = (frame, source) if own else has[source]
            case ("read" | "write", source):
                self.events.append((operation[0], self.cell(has[source])))
            case ("drop", source):
                self.free(has.pop(source))
            case ("clear" | "end", source):
                worth = has.pop(source, None)
                if worth is not None and self.kinds[frame["name"]].get(source) == "own":
                    self.free(worth)

    def cell(self, worth):
        if isinstance(worth, tuple):
            frame, place = worth
            if frame["over"] or place not in frame["has"]:
                raise Wrong(place)
            worth = frame["has"][place]
        if worth in self.freed:
            raise Wrong(worth)
        return worth

    def free(self, worth):
        cell = self.cell(worth)
        self.events.append(("free", cell))
        self.freed.add(cell)
