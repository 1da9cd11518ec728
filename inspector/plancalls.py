"""The calls about the table of plans: 47 to 66."""

from inspector.lots import Answerer, all_weights, best_plan, is_beyond, looking_on, share, size
from inspector.ratio import minus, ratio, told_ratios
from inspector.refusals import FULL, NO_SUCH, NOT_POSSIBLE, NOTHING_THERE, OUT_OF_BOUNDS

MOST_PLANS = 10
MOST_WEIGHT = 1000
MOST_MISDEEDS = 6
MOST_FINE = 9


def is_weight(amount):
    return 1 <= amount <= MOST_WEIGHT


def table_answerer(table):
    return Answerer(table.days, table.fine)


def table_reply(table):
    return table_answerer(table).best_got(table.plans, 0, table.misdeeds)


def table_end(table):
    """What comes of the best answer to the plans told, as a pair."""
    return table_answerer(table).best(table.plans, 0, table.misdeeds)


def looks_worth(table, looks):
    plans_drawn = best_plan(table.days, looks, table.fine)
    return table_answerer(table).best_got(plans_drawn, 0, table.misdeeds)


def most_looks(table):
    return max([size(each[0]) for each in table.plans])


def plan(whole, chosen, amount):
    table = whole.table
    if is_beyond(chosen, table.days) or not is_weight(amount):
        return [OUT_OF_BOUNDS]
    if len(table.plans) == MOST_PLANS:
        return [FULL]
    table.plans.append((chosen, amount))
    return [len(table.plans) - 1]


def dropplan(whole, i):
    table = whole.table
    if i >= len(table.plans):
        return [NO_SUCH]
    table.plans.pop(i)
    return [len(table.plans)]


def weight(whole, i, amount):
    table = whole.table
    if i >= len(table.plans):
        return [NO_SUCH]
    if not is_weight(amount):
        return [OUT_OF_BOUNDS]
    was = table.plans[i]
    table.plans[i] = (was[0], amount)
    return [was[1]]


def planmisdeeds(whole, amount):
    if amount > MOST_MISDEEDS:
        return [OUT_OF_BOUNDS]
    table = whole.table
    was = table.misdeeds
    table.misdeeds = amount
    return [was]


def planfine(whole, amount):
    if not 1 <= amount <= MOST_FINE:
        return [OUT_OF_BOUNDS]
    table = whole.table
    was = table.fine
    table.fine = amount
    return [was]


def fair(whole, looks):
    table = whole.table
    if looks > table.days:
        return [OUT_OF_BOUNDS]
    plans_drawn = best_plan(table.days, looks, table.fine)
    if len(plans_drawn) > MOST_PLANS:
        return [FULL]
    table.plans = plans_drawn
    return [len(plans_drawn)]


def reply(whole):
    if not whole.table.plans:
        return [NOTHING_THERE]
    return told_ratios([table_reply(whole.table)])


def daresnow(whole):
    table = whole.table
    if not table.plans:
        return [NOTHING_THERE]
    if table.misdeeds == 0:
        return [0]
    answerer = table_answerer(table)
    daring = answerer.got(answerer.if_dared(table.plans, 0, table.misdeeds))
    waiting = answerer.got(answerer.if_waited(table.plans, 0, table.misdeeds))
    if daring == waiting:
        return [2]
    return [1 if daring > waiting else 0]


def seen(whole, t, chosen, misdeeds):
    table = whole.table
    if not table.plans:
        return [NOTHING_THERE]
    if t >= table.days or is_beyond(chosen, t) or misdeeds > MOST_MISDEEDS:
        return [OUT_OF_BOUNDS]
    alike_so_far = [each for each in table.plans if each[0] % (1 << t) == chosen]
    if not alike_so_far:
        return [NOT_POSSIBLE]
    return told_ratios([table_answerer(table).best_got(alike_so_far, t, misdeeds)])


def planlooked(whole, t):
    table = whole.table
    if not table.plans:
        return [NOTHING_THERE]
    if t >= table.days:
        return [OUT_OF_BOUNDS]
    return told_ratios([share(looking_on(table.plans, t), table.plans)])


def meanlooks(whole):
    table = whole.table
    if not table.plans:
        return [NOTHING_THERE]
    looks = sum([size(each[0]) * each[1] for each in table.plans])
    return told_ratios([ratio(looks, all_weights(table.plans))])


def mostlooks(whole):
    if not whole.table.plans:
        return [NOTHING_THERE]
    return [most_looks(whole.table)]


def worthlooks(whole, looks):
    table = whole.table
    if looks > table.days:
        return [OUT_OF_BOUNDS]
    return told_ratios([looks_worth(table, looks)])


def over(whole):
    table = whole.table
    if not table.plans:
        return [NOTHING_THERE]
    return told_ratios([minus(table_reply(table), looks_worth(table, most_looks(table)))])


def bestchance(whole, looks, chosen):
    table = whole.table
    if looks > table.days or is_beyond(chosen, table.days):
        return [OUT_OF_BOUNDS]
    plans_drawn = best_plan(table.days, looks, table.fine)
    return told_ratios([share([each for each in plans_drawn if each[0] == chosen], plans_drawn)])


def bestlooked(whole, looks):
    table = whole.table
    if looks > table.days:
        return [OUT_OF_BOUNDS]
    plans_drawn = best_plan(table.days, looks, table.fine)
    return told_ratios([share(looking_on(plans_drawn, 0), plans_drawn)])


def planscaught(whole):
    table = whole.table
    if not table.plans:
        return [NOTHING_THERE]
    return told_ratios([ratio(table_end(table)[1], all_weights(table.plans))])


def plansdone(whole):
    table = whole.table
    if not table.plans:
        return [NOTHING_THERE]
    return told_ratios([ratio(table_end(table)[0], all_weights(table.plans))])


def unlooked(whole):
    table = whole.table
    if not table.plans:
        return [NOTHING_THERE]
    return told_ratios([share([each for each in table.plans if each[0] == 0], table.plans)])


def plans(whole):
    table = whole.table
    numbers = [table.days, table.misdeeds, table.fine, len(table.plans)]
    for each in table.plans:
        numbers.extend(each)
    return numbers


PLAN_CALLS = (
    plan, dropplan, weight, planmisdeeds, planfine, fair, reply, daresnow, seen, planlooked, meanlooks, mostlooks,
    worthlooks, over, bestchance, bestlooked, planscaught, plansdone, unlooked, plans,
)
