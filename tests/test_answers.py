"""The form of every answer: how many numbers, which refusals, whatever is handed in."""

import random
import unittest

from inspector.season import answers
from tests.helper import COUNTS, NAMES, ask, last_of

# By each call's name: how many numbers it answers (0: by the first ones), then its refusals.
FORMS = """
begin 1 -22; play 2 -6 -22 -33; mean 3; ifplayed 3 -6 -22 -33; best 5 -6; gain 2; toeven 1 -33; toplans 1 -33;
undo 1 -6; past 1; day 1 -22 -28; drop 1 -6; brings 1 -2 -22; looks 1 -22; misdeeds 1 -22; fine 1 -22; worth 3;
look 3 -6; dare 3 -6; from_day 3 -2 -22; lookfrom 3 -2 -22; darefrom 3 -2 -22; four 9 -6; caught 3; brought 3;
ifbrings 3 -2 -22; iflooks 3 -22; iffine 3 -22; without 3 -2; firstday 1 -33; told 0;
evenday 2 -6 -22 -33; evengain 2; left 4; evenworth 3; evenlook 3 -6; evendare 3 -6; worthof 3 -22; eveniffine 3 -22;
iflook 3 -6 -22 -33; ifdare 3 -6 -22 -33; evencaught 3; done 3; looked 3 -22; spare 3 -22; looksfor 1 -22;
finefor 1 -22 -33; plan 1 -22 -28; dropplan 1 -2; weight 1 -2 -22; planmisdeeds 1 -22; planfine 1 -22;
fair 1 -22 -28; reply 3 -6; daresnow 1 -6; seen 3 -6 -22 -33; planlooked 3 -6 -22; meanlooks 3 -6; mostlooks 1 -6;
worthlooks 3 -22; over 3 -6; bestchance 3 -22; bestlooked 3 -22; planscaught 3 -6; plansdone 3 -6; unlooked 3 -6;
plans 0
"""
FORM = {words.split()[0]: [int(word) for word in words.split()[1:]] for words in FORMS.split(";")}
PROBES = ("told", "gain", "left", "evengain", "plans", "past")
NUMBERS = (0, 0, 0, 1, 1, 1, 2, 2, 3, 3, 4, 5, 6, 7, 9, 10, 15, 16, 100, 1000, 1001, 4294967295)


def random_calls(chosen, how_many):
    calls = ["begin 2 3 2", "day 1", "day 2", "day 1", "toeven", "toplans", "plan 1 2", "plan 0 3"]
    while len(calls) < how_many:
        # A begin would take too much away to come as often as the others.
        place = chosen.randrange(1, len(NAMES)) if chosen.randrange(40) else 0
        calls.append(" ".join([NAMES[place]] + [str(chosen.choice(NUMBERS)) for each in range(COUNTS[place])]))
    return calls


class Forms(unittest.TestCase):
    def test_every_call_has_a_form(self):
        self.assertEqual(list(FORM), NAMES)

    def test_every_answer_is_of_its_call_s_form(self):
        chosen = random.Random(21)
        for trial in range(300):
            calls = random_calls(chosen, 80)
            for call, found in zip(calls, ask(", ".join(calls))):
                name = call.split()[0]
                if found[0] < 0:
                    self.assertEqual(len(found), 1, call)
                    self.assertIn(found[0], FORM[name][1:], call)
                else:
                    self.assertEqual(len(found), self.length(name, found), call)
                    self.assertTrue(all(abs(number) < 2 ** 63 for number in found), call)

    def length(self, name, found):
        if name == "told":
            return 4 + found[0]
        if name == "plans":
            return 4 + 2 * found[3]
        return FORM[name][0]

    def test_no_refused_call_changes_anything(self):
        chosen = random.Random(22)
        for trial in range(40):
            calls = random_calls(chosen, 60)
            found = ask(", ".join(calls))
            for place, answer in enumerate(found):
                if answer[0] < 0 and place > 40:
                    line = ", ".join(calls[:place])
                    self.assertEqual(last_of(line, (calls[place],) + PROBES)[1:], last_of(line, PROBES), calls[place])

    def test_nothing_is_kept_from_one_time_to_the_next(self):
        chosen = random.Random(23)
        lines = []
        for trial in range(20):
            numbers = []
            for call in random_calls(chosen, 80):
                words = call.split()
                numbers += [NAMES.index(words[0])] + [int(word) for word in words[1:]]
            lines.append(numbers)
        first = [answers(list(line)) for line in lines]
        self.assertEqual([answers(line) for line in reversed(lines)], list(reversed(first)))


if __name__ == "__main__":
    unittest.main()
