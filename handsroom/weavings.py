"""Leaving hands out of a weaving, and conflicts of two turns ([59], [60])."""

from handsroom.effects import Effect
from handsroom.errors import NoHand
from handsroom.machine import Machine
from handsroom.plain import is_index
from handsroom.replay import replay


def _effects(house, firsts, turns):
    """The effects of the turns of a weaving, in order."""
    machine = Machine(house, firsts)
    found = []
    for hand, move in turns:
        before = machine.duplicate()
        machine.turn(hand, move)
        found.append(Effect(before, machine))
    return found


def _renamed(effect, numbers):
    """The move of a turn, with the new numbers of the objects that it names."""
    move = effect.move
    if len(effect.named) == 0:
        return move
    if effect.is_start:
        return move[:2] + (tuple([numbers[number] for number in effect.named]),)
    return move[:1] + (numbers[move[1]],) + move[2:]


def leave_out(house, firsts, weaving, hands):
    """The new first objects and the new turns of a weaving without some hands."""
    given = tuple([(kind, numbers) for kind, numbers in firsts])
    machine = replay(house, given, weaving)
    for hand in hands:
        if not is_index(hand, len(machine)):
            raise NoHand(hand)
    effects = _effects(house, given, machine.turns_made)
    staying = [effect for effect in effects if effect.hand not in hands]
    gone = [number for effect in effects if effect.hand in hands for number in effect.new_objects]
    needed = [number for number in gone if any([number in effect.named for effect in staying])]
    made = [number for effect in staying for number in effect.new_objects]
    numbers = {number: at for at, number in enumerate(list(range(len(given))) + needed + made)}
    places = [hand for hand in range(len(machine)) if hand not in hands]
    turns = [(places.index(effect.hand), _renamed(effect, numbers)) for effect in staying]
    kinds = [machine.heap_now.object_rows[number][0] for number in needed]
    more = [(kind, tuple([0 for _ in house.fields_of(kind)])) for kind in kinds]
    return tuple([(kind, tuple(told)) for kind, told in given] + more), tuple(turns)


def _reason(first, second):
    """Why two turns of different hands are in conflict, None if they are not."""
    if first.is_start and second.is_start:
        return "start"
    if len(first.new_objects) > 0 and len(second.new_objects) > 0:
        return "make"
    if any([lock in first.given_back for lock in second.taken]):
        return "lock"
    if any([number in first.shared for number in second.named]):
        return "object"
    if first.used is not None and first.used == second.used and not (first.is_reading and second.is_reading):
        return "number"
    return None


def conflict_of(machine, first, second):
    """The reason of the conflict of two turns that a machine can make one after the other, None if there is none."""
    later = machine.duplicate()
    later.attempt([first, second])
    between = machine.duplicate()
    between.attempt([first])
    effects = (Effect(machine, between), Effect(between, later))
    return "hand" if effects[0].hand == effects[1].hand else _reason(effects[0], effects[1])
