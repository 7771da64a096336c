"""Controllers: finite machines that see the gains, and not the standings."""

from wonbyturns.base.chains import values_of
from wonbyturns.base.checks import check_house, check_number, check_standing
from wonbyturns.base.pairs import common_bottom, short, top_over
from wonbyturns.base.papers import is_paper_of, paper_of
from wonbyturns.base.words import is_integer, is_vector
from wonbyturns.errors import InvalidController, InvalidOperation, TooMany
from wonbyturns.play.rows import check_row

MAX_STATES = 4
MAX_TRIED = 5000


def is_controller(house, value):
    """Whether the value is a controller of the house."""
    check_house(house)
    if not isinstance(value, tuple) or not 1 <= len(value) <= MAX_STATES:
        return False
    return all([_is_state(house, state, len(value)) for state in value])


def row_controller(house, row):
    """The controller that plays a row again and again, whatever it sees."""
    check_row(house, row)
    if len(row) > MAX_STATES:
        raise TooMany(MAX_STATES)
    behind = list(range(1, len(row))) + [0]
    return tuple([(name, {gain: to for gain in house.gains_of(name)}) for name, to in zip(row, behind)])


def controller_runs(house, controller):
    """The runs of a controller from all standings."""
    _check_controller(house, controller)
    starts = [(0, standing) for standing in range(house.size)]
    values = values_of(_chain_from(_moves_over(house), controller, starts))
    return tuple([short(one) for one in values[:house.size]])


def controller_paper(house, controller):
    """Values and weights, by states and standings, which show the runs of a controller."""
    _check_controller(house, controller)
    values, weights = paper_of(_whole_chain(house, controller))
    return _by_states(values, house.size), _by_states(weights, house.size)


def is_controller_paper(house, controller, value):
    """Whether the value is a pair of values and weights which show the runs of a controller."""
    _check_controller(house, controller)
    if not isinstance(value, tuple) or len(value) != 2:
        return False
    for table in value:
        if not isinstance(table, tuple) or len(table) != len(controller):
            return False
        if not all([is_vector(row, house.size) for row in table]):
            return False
    flat = [tuple([one for row in table for one in row]) for table in value]
    return is_paper_of(_whole_chain(house, controller), tuple(flat))


def game_behind(house, controller, sight):
    """The name of the game that a controller plays behind a sight."""
    _check_controller(house, controller)
    if not isinstance(sight, tuple):
        raise InvalidOperation("a sight is a tuple of gains")
    state = 0
    for gain in sight:
        rule = controller[state][1]
        if not is_integer(gain) or gain not in rule:
            raise InvalidOperation("this is no sight of the controller")
        state = rule[gain]
    return controller[state][0]


def parting_sight(house, one, other):
    """The least sight behind which two controllers play unlike games, or None."""
    _check_controller(house, one)
    _check_controller(house, other)
    sights = {(0, 0): ()}
    waiting = [(0, 0)]
    while waiting:
        behind = []
        for pair in list(waiting):
            (name, rule), (unlike, others) = one[pair[0]], other[pair[1]]
            if name != unlike:
                return sights[pair]
            for gain in sorted(rule):
                to = (rule[gain], others[gain])
                if to not in sights:
                    sights[to] = sights[pair] + (gain,)
                    behind.append(to)
        waiting = behind
    return None


def are_alike(house, one, other):
    """Whether two controllers play the same games behind the same sights."""
    return parting_sight(house, one, other) is None


def least_controller(house, controller):
    """The least controller that is alike a controller."""
    _check_controller(house, controller)
    kinds = _kinds(controller)
    order = [0]
    places = {kinds[0]: 0}
    found = []
    while len(found) < len(order):
        name, rule = controller[order[len(found)]]
        for gain in sorted(rule):
            if kinds[rule[gain]] not in places:
                places[kinds[rule[gain]]] = len(order)
                order.append(rule[gain])
        found.append((name, {gain: places[kinds[rule[gain]]] for gain in sorted(rule)}))
    return tuple(found)


def is_least(house, controller):
    """Whether a controller is least, with its states in the order in which they come first."""
    return least_controller(house, controller) == controller


def best_controller(house, states, standing):
    """A controller with at most so many states whose run from a standing is the greatest of all such."""
    check_house(house)
    check_number(states, 1, MAX_STATES)
    check_standing(house, standing)
    if _many_controllers(house, states) > MAX_TRIED:
        raise TooMany(MAX_TRIED)
    moves = _moves_over(house)
    best = None
    run = (0, 1)
    for controller in _controllers(house, states):
        top, bottom = values_of(_chain_from(moves, controller, [(0, standing)]))[0]
        if best is None or top * run[1] > run[0] * bottom:
            best = controller
            run = (top, bottom)
    return best


def _is_state(house, value, states):
    """Whether the value is the name of a game with a rule from just its gains to so many states."""
    if not isinstance(value, tuple) or len(value) != 2:
        return False
    name, rule = value
    if name not in house or not isinstance(rule, dict):
        return False
    gains = [gain for gain in rule if is_integer(gain)]
    if len(gains) < len(rule) or tuple(sorted(gains)) != house.gains_of(name):
        return False
    return all([is_integer(rule[gain]) and 0 <= rule[gain] < states for gain in gains])


def _check_controller(house, value):
    """Raise an error unless the first value is a house, and the second one a controller of it."""
    if not is_controller(house, value):
        raise InvalidController("this is no controller of the house")


def _moves_over(house):
    """The moves (to, gain, top) of the games by their names and by standings, and their common bottom."""
    bottom = common_bottom([move[2] for name in house for moves in house[name] for move in moves])
    tops = {
        name: [[(to, gain, top_over(chance, bottom)) for to, gain, chance in moves] for moves in house[name]]
        for name in house
    }
    return tops, bottom


def _chain_from(moves, controller, starts):
    """The step between states with standings to which a controller comes; those from which it starts stand first."""
    tops, bottom = moves
    places = list(starts)
    indices = {place: index for index, place in enumerate(starts)}
    rows = []
    gains = []
    while len(rows) < len(places):
        state, standing = places[len(rows)]
        name, rule = controller[state]
        row = {}
        for to, gain, top in tops[name][standing]:
            place = (rule[gain], to)
            if place not in indices:
                indices[place] = len(places)
                places.append(place)
            row[indices[place]] = row.get(indices[place], 0) + top
        rows.append(row)
        gains.append(sum([gain * top for _, gain, top in tops[name][standing]]))
    return [[row.get(index, 0) for index in range(len(places))] for row in rows], gains, bottom


def _whole_chain(house, controller):
    """The step between all states with all standings, by states and then by standings."""
    starts = [(state, standing) for state in range(len(controller)) for standing in range(house.size)]
    return _chain_from(_moves_over(house), controller, starts)


def _by_states(vector, size):
    """What a vector tells of all states with all standings, by states."""
    return tuple([vector[start:start + size] for start in range(0, len(vector), size)])


def _kinds(controller):
    """A number for each state; states with the same number make alike controllers, each taken as the beginning."""
    kinds = [0 for _ in controller]
    while True:
        told = [
            (name, tuple([kinds[rule[gain]] for gain in sorted(rule)]), kind)
            for (name, rule), kind in zip(controller, kinds)
        ]
        finer = [told.index(one) for one in told]
        if finer == kinds:
            return kinds
        kinds = finer


def _many_controllers(house, states):
    """How many controllers with just so many states there are."""
    many = 0
    for name in house:
        rules = 1
        for _ in house.gains_of(name):
            rules = rules * states
            if rules > MAX_TRIED:
                return rules
        many = many + rules
    whole = 1
    for _ in range(states):
        whole = whole * many
    return whole


def _controllers(house, states):
    """All controllers of at most so many states that are come to by sights, in the order in which they come first."""
    begun = [((), 1)]
    found = []
    for _ in range(states):
        longer = []
        for controller, known in begun:
            for name in house:
                for rule, more in _rules(house.gains_of(name), known, states):
                    longer.append((controller + ((name, rule),), more))
        found = found + [controller for controller, known in longer if known == len(controller)]
        begun = [(controller, known) for controller, known in longer if known > len(controller)]
    return found


def _rules(gains, known, states):
    """All rules that lead to known states and to new ones, and how many states are known behind each."""
    found = [({}, known)]
    for gain in gains:
        found = [
            ({**rule, gain: to}, max(more, to + 1))
            for rule, more in found
            for to in range(min(more + 1, states))
        ]
    return found
