"""The least ring of a house ([70])."""

from handsroom.cycles import least_cycle, total_length
from handsroom.interleaving import check_nested, weave
from handsroom.needs import requests_of, stand_for
from handsroom.requests import self_requests


def least_ring(requests):
    """The least ring of a table, () if it has neither a self request nor a request cycle."""
    alone = self_requests(requests)
    if len(alone) == 0:
        return least_cycle(requests)
    # Of several requests of one length min takes the first one.
    return (min(alone, key=lambda one: requests[one]),)


class RingFinding:
    """The least ring of a house, and the turns after which its hands wait for one another."""

    def __init__(self, requests, total, turns):
        self.requests = requests
        self.total = total
        self.turns = turns


def find_ring(house):
    """A RingFinding for the least ring of the table of the house, None if there is none."""
    check_nested(house)
    table = requests_of(house)
    ring = least_ring(table)
    if len(ring) == 0:
        return None
    turns = weave(house, [stand_for(house, request) for request in ring])
    return RingFinding(ring, total_length(table, ring), turns)
