"""Mixing: whether runs of turns come to common places from wherever they begin.

Inside this module places are told by the bits of an integer.
"""

from wonbyturns.base.checks import check_house, check_number, check_standing, is_standing
from wonbyturns.base.words import is_integer
from wonbyturns.errors import InvalidRow

MAX_APART = 1000


def do_meet(house, turns, one, other):
    """Whether two standings meet behind a run of turns."""
    check_house(house)
    if not _are_turns(house, turns):
        raise InvalidRow("this is no run of turns of the house")
    check_standing(house, one)
    check_standing(house, other)
    tables = _tables(house)
    return (_places_behind(tables, turns, 1 << one) & _places_behind(tables, turns, 1 << other)) != 0


def is_mixing(house):
    """Whether the house mixes."""
    return mixing_length(house) is not None


def mixing_length(house):
    """The least length of runs of turns behind which all standings meet, or None."""
    check_house(house)
    graph = _apart_graph(_tables(house), house.size)
    lasting = _lasting(graph)
    if len(lasting) < len(graph):
        return None
    return max([lasting[pair] + 1 for pair in graph], default=0)


def mixing_paper(house):
    """A paper which shows that the house mixes, or that it does not."""
    length = mixing_length(house)
    return _apart_paper(house) if length is None else ("mixes", length)


def is_mixing_paper(house, value):
    """Whether the value is a mixing paper of the house."""
    check_house(house)
    if not isinstance(value, tuple) or len(value) not in (2, 5):
        return False
    if len(value) == 2:
        return value[0] == "mixes" and _do_all_meet(house, value[1])
    word, one, other, lead, turns = value
    return word == "apart" and _are_kept_apart(house, one, other, lead, turns)


def apart_pairs(house, length):
    """The pairs of disjoint places from two standings behind some run of so many turns, ascending."""
    check_house(house)
    check_number(length, 0, MAX_APART)
    tables = _tables(house)
    level = _first_pairs(house.size)
    levels = []
    seen = {}
    while len(levels) <= length and tuple(level) not in seen:
        seen[tuple(level)] = len(levels)
        levels.append(level)
        level = _level_behind(tables, level)
    if len(levels) <= length:
        # From here on the same levels come again and again.
        start = seen[tuple(level)]
        length = start + (length - start) % (len(levels) - start)
    return tuple(sorted([_told(pair) for pair in levels[length]]))


def _are_turns(house, value):
    """Whether the value is a run of turns of the house."""
    return isinstance(value, tuple) and all([name in house for name in value])


def _tables(house):
    """For each game the list of the places behind it, from each lot of places."""
    tables = {}
    for name in house:
        table = [0]
        for standing in range(house.size):
            near = sum([1 << to for to in house.near(name, standing)])
            table = table + [places | near for places in table]
        tables[name] = table
    return tables


def _places_behind(tables, turns, places):
    """The places behind a run of turns."""
    for name in turns:
        places = tables[name][places]
    return places


def _first_pairs(size):
    """The pairs of two standings."""
    return [(1 << one, 1 << other) for other in range(size) for one in range(other)]


def _apart_graph(tables, size):
    """The pairs of disjoint places from two standings, and for each those behind it by names."""
    graph = {}
    waiting = _first_pairs(size)
    while waiting:
        pair = waiting.pop()
        if pair not in graph:
            graph[pair] = _pairs_behind(tables, pair)
            waiting.extend(list(graph[pair].values()))
    return graph


def _pairs_behind(tables, pair):
    """The disjoint places behind a turn from a pair of places, by the names of the games."""
    one, other = pair
    behind = {name: (tables[name][one], tables[name][other]) for name in tables}
    return {name: behind[name] for name in behind if (behind[name][0] & behind[name][1]) == 0}


def _lasting(graph):
    """How many turns can keep a pair apart, for those pairs that are not kept apart for ever."""
    left = {pair: len(graph[pair]) for pair in graph}
    ahead = {pair: [] for pair in graph}
    for pair in graph:
        for behind in graph[pair].values():
            ahead[behind].append(pair)
    lasting = {}
    waiting = [pair for pair in graph if left[pair] == 0]
    while waiting:
        pair = waiting.pop()
        lasting[pair] = max([lasting[behind] + 1 for behind in graph[pair].values()], default=0)
        for one in ahead[pair]:
            left[one] = left[one] - 1
            if left[one] == 0:
                waiting.append(one)
    return lasting


def _apart_paper(house):
    """A paper which shows that the house does not mix."""
    graph = _apart_graph(_tables(house), house.size)
    lasting = _lasting(graph)
    first = [pair for pair in _first_pairs(house.size) if pair not in lasting][0]
    pair = first
    turns = []
    seen = {}
    while pair not in seen:
        seen[pair] = len(turns)
        turn = [name for name in graph[pair] if graph[pair][name] not in lasting][0]
        turns.append(turn)
        pair = graph[pair][turn]
    start = seen[pair]
    one, other = [places.bit_length() - 1 for places in first]
    return "apart", one, other, tuple(turns[:start]), tuple(turns[start:])


def _do_all_meet(house, length):
    """Whether the value is a length of runs of turns behind which all standings meet."""
    if not is_integer(length) or length < 0:
        return False
    least = mixing_length(house)
    return least is not None and least <= length


def _are_kept_apart(house, one, other, lead, turns):
    """Whether the lead leaves two standings apart, and the turns behind it lead back to the same places."""
    if not is_standing(house, one) or not is_standing(house, other):
        return False
    if not _are_turns(house, lead) or not _are_turns(house, turns) or not turns:
        return False
    tables = _tables(house)
    pair = [_places_behind(tables, lead, 1 << standing) for standing in (one, other)]
    return (pair[0] & pair[1]) == 0 and pair == [_places_behind(tables, turns, places) for places in pair]


def _level_behind(tables, level):
    """The pairs of disjoint places one turn behind those of a level."""
    found = {}
    for pair in level:
        for behind in _pairs_behind(tables, pair).values():
            found[min(behind), max(behind)] = True
    return sorted(found)


def _told(pair):
    """The pair of places, each as a tuple of standings, the lesser one first."""
    lots = [tuple([one for one in range(places.bit_length()) if places >> one & 1]) for places in pair]
    return tuple(sorted(lots))
