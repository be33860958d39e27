"""What is promised over the whole program: the interface, that nothing is changed behind, and that all fits together."""

import copy
import importlib
import inspect
import random
import unittest

import samples
import texts
from fewcounters.chains import chain_of, chains
from fewcounters.desk import Desk
from fewcounters.errors import CountError
from fewcounters.finder import cost, is_enough, plan_for, twins
from fewcounters.heaps import counts
from fewcounters.judge import judged
from fewcounters.logs import Log
from fewcounters.machine import run_code
from fewcounters.makers import chained_code, counted_code, numbered_code
from fewcounters.program_webs import web_of
from fewcounters.readings import read_back
from fewcounters.stretching import counts_by, stretch_web
from fewcounters.walks import walked
from fewcounters.ways import number_of, way_of, ways
from fewcounters.webs import is_web, stood

INTERFACE = {
    "webs": {"is_web": "web", "is_run": "web rows", "stood": "web rows"},
    "heaps": {"counts": "web heap", "relations": "web", "are_counts": "web numbers", "heap_of": "web numbers"},
    "judge": {"judged": "web plan"},
    "finder": {"plan_for": "web guesses", "cost": "web choice guesses", "is_enough": "web choice",
               "twins": "web choice"},
    "readings": {"stopped": "web stops", "read_back": "web plan marks stops"},
    "ways": {"is_loose": "web part", "ways": "web part", "worths": "web part", "steps": "web part",
             "number_of": "web part way", "way_of": "web part number"},
    "stretching": {"cuts": "web part", "stretch_web": "web part", "stretches": "web part rows",
                   "counts_by": "web part numbers"},
    "chains": {"chains": "web", "offsets": "web", "chain_number": "web chain", "chain_of": "web part number"},
    "programs": {"looked": "text"},
    "program_webs": {"names_of": "text", "web_of": "text"},
    "walks": {"walked": "text answers bound"},
    "machine": {"look_code": "code", "begun": "", "step": "code state answers bound",
                "run_code": "code answers bound"},
    "makers": {"plain_code": "text", "counted_code": "text choice", "numbered_code": "text", "chained_code": "text"},
    "logs": {"Log": "text plan"},
    "desk": {"Desk": ""},
}
METHODS = {("logs", "Log"): {"put": "answers bound", "join": "other", "ended": "", "report": ""},
           ("desk", "Desk"): {"say": "row"}}

TEXT = texts.CALLS
ANSWERS = [1, 1, 0, 0, 1]


def parameters(function):
    return " ".join(inspect.signature(function).parameters)


def things():
    """By the names of parameters right things of one program."""
    web = web_of(TEXT)
    plan = plan_for(web, [1] * len(web[1]))
    run = walked(TEXT, ANSWERS, 99)[0]
    heap = [run, walked(TEXT, [0, 0, 0], 99)[0]]
    code = counted_code(TEXT, [0, 3, 4])
    return {"web": web, "rows": run, "heap": heap, "numbers": counts(web, heap), "plan": plan, "guesses": plan[3],
            "choice": list(plan[0]), "marks": [counts(web, heap)[row] for row in plan[0]], "stops": stood(web, [0, 5]),
            "part": 2, "way": [7], "number": 0, "chain": [0, 6], "text": TEXT, "answers": list(ANSWERS), "bound": 9,
            "code": code, "state": run_code(code, ANSWERS, 6)[1]}


class Interface(unittest.TestCase):
    def test_all_is_there(self):
        for module, functions in INTERFACE.items():
            known = importlib.import_module("fewcounters." + module)
            for name, wanted in functions.items():
                with self.subTest(module + "." + name):
                    self.assertEqual(parameters(getattr(known, name)), wanted)
        for (module, name), methods in METHODS.items():
            kind = getattr(importlib.import_module("fewcounters." + module), name)
            for method, wanted in methods.items():
                self.assertEqual(parameters(getattr(kind, method)), ("self " + wanted).strip())


class Kept(unittest.TestCase):
    def test_each_function(self):
        """Nothing handed in is changed, all told is new, and the same asked again tells the same."""
        # Some lists are other ones for these functions.
        others = {"stretches": {"rows": [7]}, "counts_by": {"numbers": [0, 1, 1]}, "twins": {"choice": [0]}}
        for module, functions in INTERFACE.items():
            known = importlib.import_module("fewcounters." + module)
            for name, wanted in functions.items():
                if (module, name) not in METHODS:
                    with self.subTest(module + "." + name):
                        handed = {**things(), **others.get(name, {})}
                        samples.check_kept(self, getattr(known, name), *[handed[key] for key in wanted.split()])

    def test_what_was_told_may_be_handed_in_again(self):
        known = things()
        web = known["web"]
        before = copy.deepcopy(known)
        pair = twins(web, [0])
        self.assertEqual([counts(web, heap)[0] for heap in pair], [counts(web, pair[0])[0]] * 2)
        self.assertIsNone(judged(web, plan_for(web, plan_for(web, None)[3])))
        self.assertEqual(Log(TEXT, known["plan"]).report(), [0] * sum(map(len, web)))
        self.assertEqual(known, before)


class Together(unittest.TestCase):
    def programs(self, count):
        return texts.GOOD + texts.drawn_programs(count)

    def test_plans(self):
        for seed, text in enumerate(self.programs(60)):
            draw = random.Random(seed)
            web = web_of(text)
            self.assertTrue(is_web(web))
            for guesses in (None, [draw.randint(0, 5) for row in web[1]]):
                plan = plan_for(web, guesses)
                self.assertIsNone(judged(web, plan))
                self.assertTrue(is_enough(web, plan[0]))
                self.assertIsNone(twins(web, plan[0]))
                for number in plan[0]:
                    fewer = [other for other in plan[0] if other != number]
                    one, other = [counts(web, heap) for heap in twins(web, fewer)]
                    self.assertNotEqual(one[number], other[number])
                    self.assertEqual([one[row] for row in fewer], [other[row] for row in fewer])
                for again in range(10 if guesses else 0):
                    choice = sorted(draw.sample(range(len(web[1])), len(plan[0])))
                    if is_enough(web, choice):
                        self.assertGreaterEqual(cost(web, choice, guesses), cost(web, plan[0], guesses))

    def test_ways_and_chains_have_just_their_numbers(self):
        for text in self.programs(60):
            web = web_of(text)
            for part, count in enumerate(chains(web)):
                told = [chain_of(web, part, number) for number in range(count)]
                self.assertEqual(told, samples.plain_chains(web, part))
                self.assertRaises(CountError, chain_of, web, part, count)
                inner = stretch_web(web, part)
                found = [way_of(inner, 0, number) for number in range(min(ways(inner, 0), 200))]
                self.assertEqual([number_of(inner, 0, way) for way in found], list(range(len(found))))
                self.assertEqual(len({tuple(way) for way in found}), len(found))

    def test_three_ways_to_the_counts(self):
        """Of whole runs the chosen boxes, and the stretches' numbers, tell the counts; the chains tell how they came."""
        for seed, text in enumerate(self.programs(100)):
            draw = random.Random(seed)
            web = web_of(text)
            plan = plan_for(web, None)
            for again in range(4):
                answers = [draw.choice([0, 0, 1]) for answer in range(60)]
                rows, word, stack = walked(text, answers, 10 ** 29)
                if word != "ended":
                    continue
                wanted = counts(web, [rows])
                boxes = dict(run_code(counted_code(text, plan[0]), answers, 10 ** 29)[1][2])
                self.assertEqual(read_back(web, plan, [boxes.get(row, 0) for row in plan[0]], []), wanted)
                told = run_code(numbered_code(text), answers, 10 ** 29)[1][3]
                found = [counts_by(web, part, [number for own, chain, number in told if own == part])
                         for part in range(len(web[0]))]
                self.assertEqual([sum(column) for column in zip(*found)], wanted[:len(web[1])])
                told = run_code(chained_code(text), answers, 10 ** 29)[1][3]
                self.assertEqual([len([1 for own, chain, number in told if own == part])
                                  for part in range(len(web[0]))], wanted[len(web[1]):])
                for part, chain, number in told:
                    self.assertTrue(all(row in rows for row in chain_of(web, part, chain)))

    def test_broken_runs(self):
        for seed, text in enumerate(self.programs(60)):
            draw = random.Random(seed)
            web = web_of(text)
            plan = plan_for(web, None)
            desk = Desk()
            desk.say("put a " + text)
            log = Log(text, plan)
            gone, stops, marks = [], [], [0] * len(plan[0])
            for again in range(6):
                answers = [draw.randint(0, 1) for answer in range(draw.choice([0, 2, 9]))]
                bound = draw.choice([0, 1, 4, 12, 40])
                rows, word, stack = walked(text, answers, bound)
                gone.append(rows)
                stops += stack
                boxes = dict(run_code(counted_code(text, plan[0]), answers, bound)[1][2])
                marks = [mark + boxes.get(row, 0) for row, mark in zip(plan[0], marks)]
                self.assertEqual(log.put(answers, bound), word)
                desk.say("run a " + ("".join(map(str, answers)) or "-") + " " + str(bound))
            wanted = samples.plain_counts(web, gone)
            self.assertEqual(read_back(web, plan, marks, stops), wanted)
            self.assertEqual(log.report(), wanted)
            self.assertEqual(desk.say("report a"), " ".join(map(str, wanted)))


if __name__ == "__main__":
    unittest.main()
