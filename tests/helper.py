"""Lines of calls by their names, and second reckonings to hold the program against."""

import random
from fractions import Fraction
from functools import lru_cache
from itertools import combinations, product

from inspector.season import answers

# In the order of their numbers, each with how many numbers stand behind it.
CALLS = """
begin 3 play 2 mean 0 ifplayed 2 best 0 gain 0 toeven 0 toplans 0 undo 0 past 0
day 1 drop 0 brings 2 looks 1 misdeeds 1 fine 1 worth 0 look 0 dare 0 from_day 3 lookfrom 3 darefrom 3 four 0
caught 0 brought 0 ifbrings 2 iflooks 1 iffine 1 without 1 firstday 0 told 0
evenday 2 evengain 0 left 0 evenworth 0 evenlook 0 evendare 0 worthof 3 eveniffine 1 iflook 1 ifdare 1
evencaught 0 done 0 looked 1 spare 1 looksfor 1 finefor 1
plan 2 dropplan 1 weight 2 planmisdeeds 1 planfine 1 fair 1 reply 0 daresnow 0 seen 3 planlooked 1 meanlooks 0
mostlooks 0 worthlooks 1 over 0 bestchance 2 bestlooked 1 planscaught 0 plansdone 0 unlooked 0 plans 0
""".split()
NAMES = CALLS[0::2]
COUNTS = [int(count) for count in CALLS[1::2]]


def written(text):
    """The list of numbers of a line such as "begin 1 1 2, day 3, mean"."""
    numbers = []
    for call in text.split(","):
        words = call.split()
        number = NAMES.index(words[0])
        if len(words) - 1 != COUNTS[number]:
            raise ValueError(call)
        numbers.append(number)
        numbers.extend(int(word) for word in words[1:])
    return numbers


def ask(text):
    """What each call of the line answers, as a list of lists."""
    numbers = answers(written(text))
    asked = []
    place = 0
    while place < len(numbers):
        count = numbers[place]
        asked.append(numbers[place + 1:place + 1 + count])
        place += 1 + count
    if len(asked) != len(text.split(",")):
        raise ValueError("not as many answers as calls")
    return asked


def ask_last(text):
    return ask(text)[-1]


def last_of(line, calls):
    """What these calls answer behind the line."""
    return ask(", ".join([line] + list(calls)))[-len(calls):]


def laid_out(days, looks, misdeeds, fine):
    """The beginning of a line: a season of these days."""
    return ", ".join([f"begin {looks} {misdeeds} {fine}"] + [f"day {brings}" for brings in days])


def made_alike(days, looks, misdeeds, fine):
    """The beginning of a line: an alike season, also one of more looks or misdeeds than days (1 to 4)."""
    longer = max(days, looks, misdeeds)
    # The season's own days bring other than one: the alike season doesn't hang on them.
    line = laid_out((2, 0, 3, 0)[:longer], looks, misdeeds, fine)
    return ", ".join([line, "toeven"] + ["evenday 0 0"] * (longer - days))


def made_table(days, misdeeds, fine, plans=()):
    """The beginning of a line: a table of these plans, each a pair of its set and its weight."""
    calls = [laid_out((2, 0, 3, 0)[:days], 0, 0, 1), "toplans", f"planmisdeeds {misdeeds}", f"planfine {fine}"]
    return ", ".join(calls + [f"plan {chosen} {weight}" for chosen, weight in plans])


def told_as(*values):
    """The answer that tells these fractions."""
    numbers = [0]
    for each in values:
        numbers += [Fraction(each).numerator, Fraction(each).denominator]
    return numbers


def as_fractions(numbers):
    """The fractions of an answer 0, then fractions; they must have nothing in common."""
    if numbers[0] != 0 or len(numbers) % 2 != 1:
        raise ValueError(numbers)
    found = []
    for place in range(1, len(numbers), 2):
        above, below = numbers[place], numbers[place + 1]
        value = Fraction(above, below)
        if (above, below) != (value.numerator, value.denominator):
            raise ValueError(f"not in lowest terms: {numbers}")
        found.append(value)
    return found


def as_fraction(numbers):
    (found,) = as_fractions(numbers)
    return found


@lru_cache(maxsize=None)
def today(days, looks, misdeeds, fine):
    """Today's four cases, by (looked, dared), of days (at least one) with looks and misdeeds left."""
    cases = {(0, 0): value(days[1:], looks, misdeeds, fine)}
    if looks:
        cases[1, 0] = value(days[1:], looks - 1, misdeeds, fine)
    if misdeeds:
        cases[0, 1] = days[0] + value(days[1:], looks, misdeeds - 1, fine)
    if looks and misdeeds:
        cases[1, 1] = Fraction(-fine)
    return cases


@lru_cache(maxsize=None)
def value(days, looks, misdeeds, fine):
    """The season's worth as the value of the game of today's cases, whatever both chances are."""
    if not days or not misdeeds:
        return Fraction(0)
    cases = today(days, looks, misdeeds, fine)
    may_look = (0, 1) if looks else (0,)
    most = min(max(cases[l, d] for d in (0, 1)) for l in may_look)
    least = max(min(cases[l, d] for l in may_look) for d in (0, 1))
    if most == least:
        return most
    a, b, c, d = cases[1, 1], cases[1, 0], cases[0, 1], cases[0, 0]
    return (a * d - b * c) / (a + d - b - c)


def every_season(step, longest=4):
    """Every step-th of all seasons, as (days, looks, misdeeds, fine)."""
    counted = 0
    for length in range(longest + 1):
        for code in range(4 ** length):
            days = tuple(code // 4 ** t % 4 for t in range(length))
            for rest in range(108):
                if counted % step == 0:
                    yield days, rest // 18, rest // 3 % 6, rest % 3 + 1
                counted += 1


def every_alike(fines=(1, 2, 3)):
    """All alike seasons that can be, at their beginning or behind some days: (days, looks, misdeeds, fine)."""
    for days, looks, misdeeds, fine in product(range(1, 5), range(5), range(5), fines):
        yield days, looks, misdeeds, fine


def drawn(days, looks, fine):
    """The best plan of at most so many looks: how likely each set is drawn, by the set as a tuple of days."""
    heavy = {}
    for size in range(min(days, looks) + 1):
        for chosen in combinations(range(days), size):
            heavy[chosen] = fine ** (looks - size)
    together = sum(heavy.values())
    return {chosen: Fraction(weight, together) for chosen, weight in heavy.items()}


def drawn_chance(days, looks, fine):
    """How likely the best plan of at most so many looks has the next day."""
    return sum((chance for chosen, chance in drawn(days, looks, fine).items() if 0 in chosen), Fraction(0))


def daring_chance(days, looks, misdeeds, fine):
    """The chance of daring by which to look or not is alike to the inspector, on days alike."""
    if not misdeeds:
        return Fraction(0)
    if not looks:
        return Fraction(1)
    cases = today((1,) * days, looks, misdeeds, fine)
    wasted, spared = cases[1, 0] - cases[0, 0], cases[0, 1] - cases[1, 1]
    return wasted / (wasted + spared)


@lru_cache(maxsize=None)
def alike_end(days, looks, misdeeds, fine):
    """How likely the other's caught, and how many misdeeds are done unseen, on days alike."""
    if not days:
        return Fraction(0), Fraction(0)
    looking, daring = drawn_chance(days, looks, fine), daring_chance(days, looks, misdeeds, fine)
    caught, done = looking * daring, (1 - looking) * daring
    for chance, looks_left, misdeeds_left in (
        (looking * (1 - daring), looks - 1, misdeeds),
        ((1 - looking) * daring, looks, misdeeds - 1),
        ((1 - looking) * (1 - daring), looks, misdeeds),
    ):
        if chance:
            later = alike_end(days - 1, looks_left, misdeeds_left, fine)
            caught += chance * later[0]
            done += chance * later[1]
    return caught, done


def answered(plans, days, misdeeds, fine, past=()):
    """The best answer behind what was seen: what's got by daring, by waiting; then how often caught, how much done.

    Of past each number is 1 for a day that was looked at, 0 for one that wasn't. Daring is None without misdeeds.
    """
    t = len(past)
    if t == days:
        return None, Fraction(0), Fraction(0), Fraction(0)
    left = [(chosen, weight) for chosen, weight in plans if all(chosen >> u & 1 == was for u, was in enumerate(past))]
    looking = Fraction(sum(w for s, w in left if s >> t & 1), sum(w for s, w in left))
    waiting = [Fraction(0)] * 3
    for was, chance in ((1, looking), (0, 1 - looking)):
        if chance:
            dared, waited, caught, done = answered(plans, days, misdeeds, fine, past + (was,))
            got = waited if dared is None else max(dared, waited)
            waiting = [sum_so_far + chance * more for sum_so_far, more in zip(waiting, (got, caught, done))]
    if not misdeeds:
        return None, waiting[0], waiting[1], waiting[2]
    daring = [(1 - looking) - fine * looking, looking, 1 - looking]
    if looking < 1:
        dared, waited, caught, done = answered(plans, days, misdeeds - 1, fine, past + (0,))
        got = waited if dared is None else max(dared, waited)
        daring = [first + (1 - looking) * more for first, more in zip(daring, (got, caught, done))]
    chosen = daring if daring[0] >= waiting[0] else waiting
    return daring[0], waiting[0], chosen[1], chosen[2]


def best_got(plans, days, misdeeds, fine, past=()):
    dared, waited, caught, done = answered(plans, days, misdeeds, fine, past)
    return waited if dared is None else max(dared, waited)


def got_by(strategy, plans, days, misdeeds, fine):
    """What the other gets who dares (with misdeeds left) where strategy, a dict by the looks seen so far, says so."""
    got = Fraction(0)
    for chosen, weight in plans:
        left = misdeeds
        for t in range(days):
            past = tuple(chosen >> u & 1 for u in range(t))
            if not left or not strategy[past]:
                continue
            if chosen >> t & 1:
                got -= fine * weight
                break
            got += weight
            left -= 1
    return got / sum(weight for chosen, weight in plans)


def every_strategy(days):
    pasts = [past for t in range(days) for past in product((0, 1), repeat=t)]
    for dares in product((0, 1), repeat=len(pasts)):
        yield dict(zip(pasts, dares))


def some_tables(how_many, seed, longest=4, heaviest=6):
    """Tables drawn at random, the same ones each time: (days, misdeeds, fine, plans)."""
    chosen = random.Random(seed)
    for trial in range(how_many):
        days = chosen.randint(1, longest)
        plans = tuple(
            (chosen.randrange(2 ** days), chosen.randint(1, heaviest)) for each in range(chosen.randint(1, 10))
        )
        yield days, chosen.randint(0, 6), chosen.choice((1, 1, 2, 3, 9)), plans
