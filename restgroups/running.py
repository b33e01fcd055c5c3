"""Moves behind one another: where a run ends, what may be come to, and whether it may go round."""

from restgroups.going import gone, moves_by, step_by
from restgroups.standing import Standing


def run_from(standing, way):
    """How many moves a run makes, whether nobody may go then, and the groups then."""
    been = {}
    made = 0
    now = standing
    move = step_by(now, way)
    while move is not None and tuple(now.groups) not in been:
        been[tuple(now.groups)] = True
        now = Standing(now.liking, gone(now.groups, move[0], move[1]))
        made = made + 1
        move = step_by(now, way)
    return (made, move is None, now.groups)


def made_of_by_one_move(standing, way):
    return [tuple(gone(standing.groups, move[0], move[1])) for move in moves_by(standing, way)]


def all_come_to(standing, way):
    """For all groups that may be come to, these among them, what one move more makes of them."""
    behind = {}
    waiting = [tuple(standing.groups)]
    while len(waiting) > 0:
        groups = waiting.pop()
        if groups not in behind:
            behind[groups] = made_of_by_one_move(Standing(standing.liking, groups), way)
            waiting.extend(behind[groups])
    return behind


def rests_somewhere(behind):
    """Whether something that may be come to is at rest."""
    return any([len(behind[groups]) == 0 for groups in behind])


def goes_round(behind):
    """What leads to nothing but what ends, ends too: where something doesn't end, moves go round."""
    ended = {}
    known = -1
    while known < len(ended):
        known = len(ended)
        for groups in behind:
            if all([later in ended for later in behind[groups]]):
                ended[groups] = True
    return known < len(behind)
