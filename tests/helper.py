"""Lines of calls by their names, and a second reckoning of the season to hold the program against."""

from fractions import Fraction
from functools import lru_cache

from inspector.season import answers

# In the order of their numbers, each with how many numbers stand behind it.
CALLS = """
begin 3 play 2 mean 0 ifplayed 2 best 0 gain 0 toeven 0 toplans 0 undo 0 past 0
day 1 drop 0 brings 2 looks 1 misdeeds 1 fine 1 worth 0 look 0 dare 0 from_day 3 lookfrom 3 darefrom 3 four 0
caught 0 brought 0 ifbrings 2 iflooks 1 iffine 1 without 1 firstday 0 told 0
evenday 2 evengain 0 left 0 evenworth 0 evenlook 0 evendare 0 worthof 3 eveniffine 1 iflook 1 ifdare 1
evencaught 0 done 0 looked 1 spare 1 looksfor 1 finefor 1
plan 2 dropplan 1 weight 2 planmisdeeds 1 planfine 1 fair 1 reply 0 daresnow 0 seen 3 planlooked 1 meanlooks 0
mostlooks 0 worthlooks 1 over 0 bestchance 2 bestlooked 1 planscaught 0 plansdone 0 unlooked 0 plans 0
""".split()
NAMES = CALLS[0::2]
COUNTS = [int(count) for count in CALLS[1::2]]


def written(text):
    """The list of numbers of a line such as "begin 1 1 2, day 3, mean"."""
    numbers = []
    for call in text.split(","):
        words = call.split()
        number = NAMES.index(words[0])
        if len(words) - 1 != COUNTS[number]:
            raise ValueError(call)
        numbers.append(number)
        numbers.extend(int(word) for word in words[1:])
    return numbers


def ask(text):
    """What each call of the line answers, as a list of lists."""
    numbers = answers(written(text))
    asked = []
    place = 0
    while place < len(numbers):
        count = numbers[place]
        asked.append(numbers[place + 1:place + 1 + count])
        place += 1 + count
    if len(asked) != len(text.split(",")):
        raise ValueError("not as many answers as calls")
    return asked


def ask_last(text):
    return ask(text)[-1]


def laid_out(days, looks, misdeeds, fine):
    """The beginning of a line: a season of these days."""
    return ", ".join([f"begin {looks} {misdeeds} {fine}"] + [f"day {brings}" for brings in days])


def as_fractions(numbers):
    """The fractions of an answer 0, then fractions; they must have nothing in common."""
    if numbers[0] != 0 or len(numbers) % 2 != 1:
        raise ValueError(numbers)
    found = []
    for place in range(1, len(numbers), 2):
        above, below = numbers[place], numbers[place + 1]
        value = Fraction(above, below)
        if (above, below) != (value.numerator, value.denominator):
            raise ValueError(f"not in lowest terms: {numbers}")
        found.append(value)
    return found


def as_fraction(numbers):
    (found,) = as_fractions(numbers)
    return found


@lru_cache(maxsize=None)
def today(days, looks, misdeeds, fine):
    """Today's four cases, by (looked, dared), of days (at least one) with looks and misdeeds left."""
    cases = {(0, 0): value(days[1:], looks, misdeeds, fine)}
    if looks:
        cases[1, 0] = value(days[1:], looks - 1, misdeeds, fine)
    if misdeeds:
        cases[0, 1] = days[0] + value(days[1:], looks, misdeeds - 1, fine)
    if looks and misdeeds:
        cases[1, 1] = Fraction(-fine)
    return cases


@lru_cache(maxsize=None)
def value(days, looks, misdeeds, fine):
    """The season's worth as the value of the game of today's cases, whatever both chances are."""
    if not days or not misdeeds:
        return Fraction(0)
    cases = today(days, looks, misdeeds, fine)
    may_look = (0, 1) if looks else (0,)
    most = min(max(cases[l, d] for d in (0, 1)) for l in may_look)
    least = max(min(cases[l, d] for l in may_look) for d in (0, 1))
    if most == least:
        return most
    a, b, c, d = cases[1, 1], cases[1, 0], cases[0, 1], cases[0, 0]
    return (a * d - b * c) / (a + d - b - c)


def every_season(step, longest=4):
    """Every step-th of all seasons, as (days, looks, misdeeds, fine)."""
    counted = 0
    for length in range(longest + 1):
        for code in range(4 ** length):
            days = tuple(code // 4 ** t % 4 for t in range(length))
            for rest in range(108):
                if counted % step == 0:
                    yield days, rest // 18, rest // 3 % 6, rest % 3 + 1
                counted += 1
