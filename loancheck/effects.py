"""What operations do to places and loans (s1), and what they use and access (s3, s4)."""

LOAN_WORDS = ("param", "node")

# It stands, among the loans, for holding no parameter.
NO_PARAMETER = ("none",)


def put_by(operation):
    """The place into which an operation puts something, or None."""
    if operation[0] in ("new", "move", "copy", "borrow"):
        return operation[1]
    if operation[0] == "call":
        return operation[2]
    return None


def emptied_by(operation):
    """The places that have no values behind an operation, whatever was ahead of it."""
    if operation[0] == "move":
        return (operation[2],)
    if operation[0] in ("drop", "clear", "end"):
        return (operation[1],)
    if operation[0] == "call":
        return argument_places(operation[3])
    return ()


def argument_places(many):
    return tuple([argument_place(number) for number in range(many)])


def argument_place(number):
    return "#" + str(number)


def origin_by(operation, outcome):
    """The place whose loans go to that into which an operation puts something, or None."""
    if operation[0] in ("move", "copy", "borrow"):
        return operation[2]
    if operation[0] == "call" and operation[2] is not None and outcome not in (None, "none"):
        return argument_place(outcome)
    return None


def used_by(operation, result):
    """The places that an operation uses, in order: result is the kind of the result of the function."""
    if operation[0] in ("move", "copy", "borrow"):
        return (operation[2],)
    if operation[0] in ("read", "write", "drop"):
        return (operation[1],)
    if operation[0] == "call":
        return argument_places(operation[3])
    if operation[0] == "exit" and result is not None:
        return ("#r",)
    return ()


def touched_by(operation):
    """The places into which an operation puts something, or which it clears or whose scope it ends."""
    target = put_by(operation)
    if target is None:
        return emptied_by(operation)
    return (target, *emptied_by(operation))


def accessed_by(operation, kinds):
    """The pair (variable, "read" or "write"), or None: kinds tells the kinds of the variables."""
    word = operation[0]
    if word in ("read", "write", "drop"):
        source = operation[1]
    elif word in ("move", "borrow"):
        source = operation[2]
    elif word in ("clear", "end") and kinds.get(operation[1]) == "own":
        source = operation[1]
    else:
        return None
    if source not in kinds:
        return None
    if word == "read" or (word == "borrow" and operation[3] == "ref"):
        return (source, "read")
    return (source, "write")


def effect_at(parts, node, outcome):
    """What a node does, with an outcome, to whatever pairs (place, loan) there are ahead of it.

    It is told as (target, origin, emptied, gone): the place into which something is put, the place from which
    it gets its loans, the places that are emptied, and the loans that no place holds behind the node.
    """
    operation = parts.operations[node]
    gone = ()
    if operation[0] == "move":
        gone = parts.loans_of(operation[2])
    elif operation[0] in ("drop", "clear", "end"):
        gone = parts.loans_of(operation[1])
    return (put_by(operation), origin_by(operation, outcome), emptied_by(operation), gone)


def pairs_behind(effect, pair):
    """The pairs (place, loan) that there are behind a node because one is ahead of it."""
    target, origin, emptied, gone = effect
    place, loan = pair
    if loan in gone:
        return []
    found = []
    if place != target and place not in emptied:
        found.append(pair)
    if place == origin:
        found.append((target, loan))
    return found


def values_behind(effect, fact):
    """The pairs (place, whether it has a value) that are so behind a node because one is so ahead of it."""
    target, _, emptied, _ = effect
    place = fact[0]
    if place == target:
        return [(place, True)]
    if place in emptied:
        return [(place, False)]
    return [fact]


def detached_by(effect):
    """The places that hold no parameter behind a node, whatever they held ahead of it."""
    target, origin, emptied, _ = effect
    if target is None or origin is not None:
        return emptied
    return (target, *emptied)


def pairs_in_order(parts, pairs):
    """Pairs (place, loan), each once, in the order of the places, then of the loans."""
    found = {}
    for place, loan in pairs:
        found[(parts.places.index(place), loan_rank(loan))] = (place, loan)
    return tuple([found[key] for key in sorted(found)])


def loan_rank(loan):
    """What stands for the place of a loan in the order of all loans (c8), ("none",) behind them (p4)."""
    if loan == NO_PARAMETER:
        return (len(LOAN_WORDS), 0)
    return (LOAN_WORDS.index(loan[0]), loan[1])


def is_against(access, loan):
    """Whether an access (variable, "read" or "write"), or None, is one against a loan (source, mode) (s5)."""
    if access is None or access[0] != loan[0]:
        return False
    return access[1] == "write" or loan[1] == "mut"


def conflicting_makers(parts, operation, holds, later):
    """The nodes that made the loans with which an operation is in conflict (s5).

    Ahead of it there are the pairs (place, loan) that holds tells; later are the places used later behind it.
    """
    access = accessed_by(operation, parts.kinds)
    target = put_by(operation)
    found = []
    for place, loan in holds:
        if loan[0] == "node" and loan[1] in parts.borrows and place != target and place in later:
            if is_against(access, parts.borrows[loan[1]]):
                found.append(loan[1])
    return found
