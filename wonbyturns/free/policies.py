"""Policies: at each standing they tell which game is played there."""

from wonbyturns.base.chains import homes_of, values_of
from wonbyturns.base.checks import check_house, check_standing
from wonbyturns.base.pairs import LEAST_WIDE, are_at_most, are_below, minus, short, sum_of
from wonbyturns.base.papers import is_paper_of, paper_of
from wonbyturns.base.steps import game_step, row_step, vector_behind, vector_led_back
from wonbyturns.base.words import LEAST_LONG, is_vector
from wonbyturns.errors import InvalidPolicy, TooMany, UnknownGame
from wonbyturns.free.choosing import best_chosen, best_paper, differences, picked_step, turn_of
from wonbyturns.free.room import roomy_weights
from wonbyturns.play.rounds import runs_of
from wonbyturns.play.rows import check_row

MAX_POLICIES = 5000


def is_policy(house, value):
    """Whether the value is a policy of the house."""
    check_house(house)
    return isinstance(value, tuple) and len(value) == house.size and all([name in house for name in value])


def policy_runs(house, policy):
    """The runs of a policy from all standings."""
    return tuple([short(one) for one in values_of(_policy_step(house, policy))])


def policy_homes(house, policy):
    """The homes of a policy, ascending."""
    return tuple(homes_of(_policy_step(house, policy)))


def policy_paper(house, policy):
    """A policy paper of a policy."""
    return paper_of(_policy_step(house, policy))


def is_policy_paper(house, policy, value):
    """Whether the value is a policy paper of a policy."""
    return is_paper_of(_policy_step(house, policy), value)


def best_runs(house):
    """The greatest long runs of all free choosing, from all standings."""
    check_house(house)
    return tuple([short(one) for one in exact_best_runs(house)])


def best_run(house, standing):
    """The greatest long run of all free choosing from a standing."""
    check_house(house)
    check_standing(house, standing)
    return short(exact_best_runs(house)[standing])


def free_paper(house):
    """A policy with the best runs, these runs, and weights by which no free choosing has greater ones."""
    check_house(house)
    turn = _turn_of_games(house)
    picks, values, weights = [found[0] for found in best_paper([turn])]
    for limit in (LEAST_WIDE, LEAST_LONG):
        if not are_below(weights, limit):
            weights = roomy_weights(turn, values, weights, limit) or weights
    return _told(house, picks), tuple([short(one) for one in values]), tuple([short(one) for one in weights])


def is_free_paper(house, value):
    """Whether the value is a policy, its runs, and weights by which no free choosing has greater ones."""
    check_house(house)
    if not isinstance(value, tuple) or len(value) != 3:
        return False
    policy, values, weights = value
    if not is_policy(house, policy) or not all([is_vector(one, house.size) for one in (values, weights)]):
        return False
    return tuple(values_of(_policy_step(house, policy))) == values and _are_above(house, values, weights)


def improved(house, policy):
    """A policy whose runs are nowhere less and somewhere greater, or None if there is none."""
    runs = values_of(_policy_step(house, policy))
    best = best_policy(house)
    return None if values_of(_policy_step(house, best)) == runs else best


def best_policies(house):
    """All policies that have the best runs from all standings, ascending."""
    check_house(house)
    many = 1
    for _ in range(house.size):
        many = many * len(house)
    if many > MAX_POLICIES:
        raise TooMany(MAX_POLICIES)
    turn = _turn_of_games(house)
    _, values, weights = best_chosen([turn])
    options = differences([turn], values, weights, 0)
    found = [()]
    for falls, _ in options:
        found = [picks + (index,) for picks in found for index, fall in enumerate(falls) if fall[0] == 0]
    return tuple([_told(house, picks) for picks in found if _are_exact_at_home(turn, picks, options)])


def worth_of_seeing(house, row):
    """The best runs less the long runs of a row."""
    check_row(house, row)
    runs = runs_of(row_step(house, row), len(row))
    return tuple([short(minus(one, run)) for one, run in zip(exact_best_runs(house), runs)])


class Chooser:
    """A policy with its house. It never changes."""

    def __init__(self, house, policy):
        self._runs = policy_runs(house, policy)
        self._house = house
        self._policy = policy

    @property
    def house(self):
        """The house."""
        return self._house

    @property
    def policy(self):
        """The names of the games by standings."""
        return self._policy

    @property
    def runs(self):
        """The runs from all standings."""
        return self._runs

    def game(self, standing):
        """The name of the game that is told at a standing."""
        check_standing(self._house, standing)
        return self._policy[standing]

    def with_game(self, standing, name):
        """The policy with another game at a standing."""
        check_standing(self._house, standing)
        if name not in self._house:
            raise UnknownGame(name)
        return Chooser(self._house, self._policy[:standing] + (name,) + self._policy[standing + 1:])

    def is_best(self):
        """Whether the runs are the best ones."""
        return improved(self._house, self._policy) is None

    def better(self):
        """A policy whose runs are nowhere less and somewhere greater, or None if there is none."""
        policy = improved(self._house, self._policy)
        return None if policy is None else Chooser(self._house, policy)

    def __contains__(self, value):
        return isinstance(value, str) and value in self._policy

    def __len__(self):
        return len(self._policy)

    def __iter__(self):
        return iter(self._policy)

    def __eq__(self, other):
        return isinstance(other, Chooser) and self._house == other._house and self._policy == other._policy

    def __str__(self):
        return ", ".join([f"{name} at {standing}" for standing, name in enumerate(self._policy)])


def exact_best_runs(house):
    """The greatest long runs of all free choosing, however long their numbers are."""
    return best_chosen([_turn_of_games(house)])[1][0]


def best_policy(house):
    """A policy that has the best runs from all standings."""
    return _told(house, best_chosen([_turn_of_games(house)])[0][0])


def _policy_step(house, policy):
    """The step of a turn by a policy."""
    if not is_policy(house, policy):
        raise InvalidPolicy("this is no policy of the house")
    return game_step(tuple([house[name][standing] for standing, name in enumerate(policy)]))


def _turn_of_games(house):
    """The turn at which each game can be taken."""
    return turn_of([[house[name][standing] for name in house] for standing in range(house.size)])


def _told(house, picks):
    """The policy that takes the games with these indices."""
    return tuple([house.names[index] for index in picks])


def _are_above(house, values, weights):
    """Whether by no game more comes than these values and weights tell."""
    sums = [sum_of(both) for both in zip(values, weights)]
    for name in house:
        step = game_step(house[name])
        if not are_at_most(vector_behind(step, values), values):
            return False
        if not are_at_most(vector_led_back(step, weights), sums):
            return False
    return True


def _are_exact_at_home(turn, picks, options):
    """Whether nothing is missing by the picks in their homes, so that they gain all that the values tell."""
    homes = homes_of(picked_step(turn, picks))
    return all([options[one][1][picks[one]][0] == 0 for home in homes for one in home])
