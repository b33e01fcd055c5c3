"""The calls that only ask, worths to state."""

from restgroups.choosing import all_standings, best_by, count_kinds, envious_pairs, first_beating, first_perfect
from restgroups.choosing import goodness, kinds_of
from restgroups.going import best_place, is_at_rest, moves_by
from restgroups.kept import liking_of, standing_of
from restgroups.leaving import firm_sets, is_holding, leavers_by
from restgroups.refusals import LAST_BEST, LAST_KIND, LAST_LEAVING, LAST_WAY, NONE_SUCH, NOT_THERE, WRONG
from restgroups.running import all_come_to, goes_round, rests_somewhere, run_from
from restgroups.standing import has_in, how_many, is_even


def as_number(is_so):
    return 1 if is_so else 0


def counted(found):
    return [len(found)] + found


def counted_pairs(pairs):
    given = [len(pairs)]
    for pair in pairs:
        given.extend(pair)
    return given


def told_groups(groups):
    """How many groups there are, then each person's."""
    return [how_many(groups)] + groups


def told_if_any(standing):
    return [NONE_SUCH] if standing is None else told_groups(standing.groups)


def answer_worths(kept, told):
    has = standing_of(kept).has
    return [0] + has + [sum(has)]


def answer_moves(kept, told):
    way = told[0]
    if way > LAST_WAY:
        return [WRONG]
    return counted_pairs(moves_by(standing_of(kept), way))


def answer_best(kept, told):
    i = told[0]
    if not kept.is_person(i):
        return [NOT_THERE]
    standing = standing_of(kept)
    k = best_place(standing, i)
    return [k, has_in(standing, i, k)]


def answer_leavers(kept, told):
    w = told[0]
    if w > LAST_LEAVING:
        return [WRONG]
    return counted(leavers_by(standing_of(kept), w))


def answer_rests(kept, told):
    way = told[0]
    if way > LAST_WAY:
        return [WRONG]
    return [as_number(is_at_rest(standing_of(kept), way))]


def answer_holds(kept, told):
    w = told[0]
    if w > LAST_LEAVING:
        return [WRONG]
    return [as_number(is_holding(standing_of(kept), w))]


def answer_kinds(kept, told):
    standings = all_standings(liking_of(kept))
    return [len(standings)] + count_kinds(standings)


def answer_run(kept, told):
    way = told[0]
    if way > LAST_WAY:
        return [WRONG]
    ended = run_from(standing_of(kept), way)
    return [ended[0], as_number(ended[1])] + ended[2]


def answer_round(kept, told):
    way = told[0]
    if way > LAST_WAY:
        return [WRONG]
    behind = all_come_to(standing_of(kept), way)
    return [len(behind), as_number(rests_somewhere(behind)), as_number(goes_round(behind))]


def answer_most(kept, told):
    k = told[0]
    if k > LAST_BEST:
        return [WRONG]
    found = best_by(all_standings(liking_of(kept)), k)
    return told_groups(found.groups) + [goodness(found, k)]


def answer_among(kept, told):
    k = told[0]
    w = told[1]
    if k > LAST_BEST or w > LAST_KIND:
        return [WRONG]
    standings = all_standings(liking_of(kept))
    found = best_by([standing for standing in standings if kinds_of(standing)[w]], k)
    if found is None:
        return [NONE_SUCH]
    return told_groups(found.groups) + [goodness(found, k)]


def answer_beaten(kept, told):
    return told_if_any(first_beating(standing_of(kept)))


def answer_envies(kept, told):
    return counted_pairs(envious_pairs(standing_of(kept)))


def answer_firm(kept, told):
    return counted(firm_sets(liking_of(kept)))


def answer_perfect(kept, told):
    return told_if_any(first_perfect(liking_of(kept)))


def answer_likes(kept, told):
    i = told[0]
    if not kept.is_person(i):
        return [NOT_THERE]
    return counted(kept.worths[i])


def answer_groups(kept, told):
    return told_groups(kept.groups)


def answer_state(kept, told):
    return [len(kept.groups), kept.made, as_number(is_even(kept.worths)), len(kept.past)]


# From worths on, in the order of the calls' numbers.
ASKERS = (
    answer_worths,
    answer_moves,
    answer_best,
    answer_leavers,
    answer_rests,
    answer_holds,
    answer_kinds,
    answer_run,
    answer_round,
    answer_most,
    answer_among,
    answer_beaten,
    answer_envies,
    answer_firm,
    answer_perfect,
    answer_likes,
    answer_groups,
    answer_state,
)


def answer_asking(kept, number, told):
    """The answer to a call that only asks, worths having the number 0 here."""
    return ASKERS[number](kept, told)
