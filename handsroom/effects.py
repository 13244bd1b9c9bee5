"""What a turn of a machine names, makes, shares, takes, gives back and uses ([59], [60])."""


def _step_before(machine, hand):
    """The step at which a hand stands, ("",) for a hand that has not started or is over."""
    step = machine.step_at(hand) if hand < len(machine) else None
    return ("",) if step is None else step


def _held(machine, hand):
    return machine.hand_at(hand).held if hand < len(machine) else ()


def _named(step, move):
    """The objects that a move names."""
    if move[0] == "start":
        return move[2]
    return (move[1],) if step[0] == "fetch" or move[0] == "change" else ()


def _used(machine, hand, step, move):
    """The pair (object, field) whose number a turn reads, writes or changes, None if there is none."""
    if move[0] == "change":
        return move[1:3]
    if step[0] in ("read", "write"):
        return machine.hand_at(hand).leads_to(step[1]), step[2]
    return None


class Effect:
    """What one turn does; before and after are machines, and its move is as the later one has made it."""

    def __init__(self, before, after):
        self.hand, self.move = after.turns_made[-1]
        step = _step_before(before, self.hand)
        held, later = _held(before, self.hand), _held(after, self.hand)
        rows, changed = before.heap_now.object_rows, after.heap_now.object_rows
        self.is_start = self.move[0] == "start"
        self.named = _named(step, self.move)
        self.new_objects = tuple(range(len(rows), len(changed)))
        self.shared = tuple([at for at, row in enumerate(rows) if row[2] is not None and changed[at][2] is None])
        self.given_back = tuple([lock for lock in held if lock not in later])
        self.taken = tuple([lock for lock in later if lock not in held])
        self.used = _used(before, self.hand, step, self.move)
        self.is_reading = step[0] == "read"
