"""Machines: any number of hands that run the routines of one house ([51] to [58])."""

from handsroom.errors import HandsError, MustWait, NoHand, NoSuch, Refused, WrongMove
from handsroom.hands import started_hand
from handsroom.heap import Heap, begun_rows
from handsroom.moverules import is_start, move_rule, start_rule
from handsroom.plain import is_index, is_integer
from handsroom.spreading import Spread
from handsroom.turning import behind_move, fault_of, shows_of, step_of


class Machine:
    """A heap, the states of hands, and all that they did so far."""

    def __init__(self, house, firsts):
        self.house = house
        self._heap = Heap(house, begun_rows(house, firsts))
        self._firsts = tuple([row[:2] for row in self._heap.object_rows])
        self._hands = ()
        self._turns = ()
        self._shows = ()
        self._faults = ()
        self._spreads = {}

    def __len__(self):
        return len(self._hands)

    @property
    def heap_now(self):
        """The Heap at this moment."""
        return self._heap

    @property
    def turns_made(self):
        """All turns so far, in order."""
        return self._turns

    @property
    def shows_made(self):
        """A pair (hand, number or None) for each show, in order."""
        return self._shows

    @property
    def faults_made(self):
        """A tuple (word, index of the turn, hand, point) for each fault, in order."""
        return self._faults

    def turn(self, hand, move):
        """Makes a turn."""
        if is_start(move):
            self._start(hand, move)
            return
        state = self.hand_at(hand)
        spread = self._spreads[state.routine]
        rule = move_rule(spread, self._heap, state, move)
        if rule:
            raise WrongMove(move, rule)
        holder = self.waits_for(hand)
        if holder is not None:
            raise MustWait(self.wants(hand), holder)
        if move[0] in ("go", "enter"):
            self._show(spread, hand, state)
        self._heap, moved = behind_move(spread, self._heap, hand, state, move)
        self._hands = self._hands[:hand] + (moved,) + self._hands[hand + 1:]
        self._turns = self._turns + ((hand, move),)

    def _start(self, hand, move):
        if not is_integer(hand) or hand != len(self._hands):
            raise NoHand(hand)
        rule = start_rule(self.house, self._heap, move)
        if rule:
            raise WrongMove(move, rule)
        word, name, objects = move
        if name not in self._spreads:
            self._spreads[name] = Spread(self.house, name)
        self._hands = self._hands + (started_hand(self.house, name, tuple(objects)),)
        self._turns = self._turns + ((hand, (word, name, tuple(objects))),)

    def _show(self, spread, hand, state):
        """Notes what a go or an enter shows, and the fault that it makes."""
        self._shows = self._shows + tuple([(hand, number) for number in shows_of(spread, self._heap, state)])
        word = fault_of(spread, self._heap, state)
        if word:
            self._faults = self._faults + ((word, len(self._turns), hand, state.point),)

    def attempt(self, turns):
        """Makes all turns of a sequence, or none of them."""
        trial = self.duplicate()
        for position, (hand, move) in enumerate(turns):
            try:
                trial.turn(hand, move)
            except HandsError as error:
                raise Refused(position) from error
        self._adopt(trial)

    def duplicate(self):
        """An independent machine in the same state."""
        twin = Machine(self.house, self._firsts)
        twin._adopt(self)
        return twin

    def _adopt(self, other):
        """Takes on the state of a machine of the same house."""
        self._heap = other._heap
        self._hands = other._hands
        self._turns = other._turns
        self._shows = other._shows
        self._faults = other._faults
        # Spread forms follow from the house alone, so they may be kept in common.
        self._spreads = other._spreads

    def hand_at(self, hand):
        """The state of a hand."""
        if not is_index(hand, len(self._hands)):
            raise NoHand(hand)
        return self._hands[hand]

    def step_at(self, hand):
        """The step of the point of a hand, None if it is over."""
        state = self.hand_at(hand)
        return None if state.over else step_of(self._spreads[state.routine], state)

    def nexts_at(self, hand):
        """The next points of the point of a hand, () if it is over."""
        state = self.hand_at(hand)
        return () if state.over else self._spreads[state.routine].points[state.point].nexts

    def wants(self, hand):
        """The lock that a hand wants, None if it wants none."""
        step = self.step_at(hand)
        if step is not None and step[0] == "take":
            return step[1]
        return self.hand_at(hand).wanted

    def waits_for(self, hand):
        """The hand for which a hand must wait, None if it need not wait."""
        lock = self.wants(hand)
        return None if lock is None else self.holder(lock)

    def holder(self, lock):
        """The hand that holds a lock, None if none does."""
        if lock not in self.house.locks:
            raise NoSuch(lock)
        for hand, state in enumerate(self._hands):
            if lock in state.held:
                return hand
        return None

    def _ring_from(self, hand):
        """The ring that begins with a hand, () if there is none."""
        ring = (hand,)
        following = self.waits_for(hand)
        while following is not None and following not in ring:
            ring = ring + (following,)
            following = self.waits_for(following)
        return ring if following == hand else ()

    def ring(self):
        """The ring that has the least hand of all rings, beginning with it, () if there is none."""
        for hand in range(len(self._hands)):
            ring = self._ring_from(hand)
            if len(ring) > 0:
                return ring
        return ()
