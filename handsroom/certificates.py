"""Finite tables which show that no weaving of a house comes to a ring ([69])."""

from handsroom.chains import chains_of, closes, joined_chain
from handsroom.lonetable import START, LoneTable, next_nodes
from handsroom.needs import requests_at, requests_of
from handsroom.requests import proper_requests
from handsroom.spreading import Spread


def ring_table(house):
    """The pair of the stations of all nodes of the lone tables and the chains of the table of the house."""
    stations = []
    for routine in house.routines:
        stations.extend([(routine.name, node) for node in LoneTable(Spread(house, routine.name)).nodes])
    return tuple(stations), chains_of(requests_of(house))


def _first_gaps(house, known):
    return [("node", one.name, START) for one in house.routines if (one.name, START) not in known]


def _request_gap(request, chains):
    """The gaps that a request of a station makes, one or none."""
    held, wanted = request
    if wanted in held:
        return [("self", held, wanted)]
    return [("chain", held, wanted)] if len(held) > 0 and request not in chains else []


def _station_gaps(spread, node, known, chains):
    nexts = next_nodes(spread, node)
    gaps = [("node", spread.name, following) for following in nexts if (spread.name, following) not in known]
    for _, request in requests_at(spread, node):
        gaps.extend(_request_gap(request, chains))
    return gaps


def _chain_gaps(house, chain, proper, chains):
    """The gaps that a chain makes; proper are the proper requests of the stations."""
    if closes(chain):
        return [("ring",) + chain]
    joined = [joined_chain(house.locks, chain, request) for request in proper]
    return [("chain",) + longer for longer in joined if longer is not None and longer not in chains]


def _gaps(house, stations, chains):
    """All gaps in order; one can come twice."""
    spreads = {routine.name: Spread(house, routine.name) for routine in house.routines}
    known = {station: True for station in stations}
    gaps = _first_gaps(house, known)
    proper = []
    for name, node in stations:
        gaps.extend(_station_gaps(spreads[name], node, known, chains))
        proper.extend(proper_requests([request for _, request in requests_at(spreads[name], node)]))
    for chain in chains:
        gaps.extend(_chain_gaps(house, chain, proper, chains))
    return gaps


def ring_gaps(house, stations, chains):
    """Yields what some stations and chains lack to show that no weaving comes to a ring, in order."""
    gaps = {gap: True for gap in _gaps(house, stations, chains)}
    for gap in list(gaps):
        yield gap
