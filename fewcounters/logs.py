"""Logs: many runs of one program, kept by the chosen rows' counts and where runs broke off."""

from fewcounters.elimination import added
from fewcounters.errors import NoLog, NoPlan
from fewcounters.judge import judged
from fewcounters.machine import run_code
from fewcounters.makers import counted_code
from fewcounters.program_webs import web_of
from fewcounters.readings import read_from, stopped
from fewcounters.walks import ENDED
from fewcounters.webs import stood


class Log:
    """A log of the runs of a text, by a plan.

    marks holds for each chosen row how often it was counted, stops a dict by each tuple of the stacks of broken runs
    of how often it stood there: a log that is joined with itself again and again would outgrow a list of them.
    """

    def __init__(self, text, plan):
        web = web_of(text)
        if judged(web, plan) is not None:
            raise NoPlan("a plan that the judge does not let by")
        self.text = text
        self.web = web
        self.choice = list(plan[0])
        self.readings = [(whole, list(times), list(multipliers)) for whole, times, multipliers in plan[1]]
        self.code = counted_code(text, self.choice)
        self.marks = [0] * len(self.choice)
        self.whole_runs = 0
        self.stops = {}

    def put(self, answers, bound):
        """Run the program, keep what the run leaves, and tell the word with which it stood still."""
        told = run_code(self.code, answers, bound)
        boxes = dict(told[1][2])
        self.marks = added(self.marks, [boxes.get(number, 0) for number in self.choice], 1)
        if told[0] == ENDED:
            self.whole_runs += 1
        for stop in stood(self.web, told[1][5]):
            self.stops[stop] = self.stops.get(stop, 0) + 1
        return told[0]

    def join(self, other):
        """Add all that another log of the same text and choice keeps."""
        if not isinstance(other, Log) or other.text != self.text or other.choice != self.choice:
            raise NoLog("no log of the same text and choice")
        self.marks = added(self.marks, other.marks, 1)
        self.whole_runs += other.whole_runs
        # The other log may be this one, so its stops are walked while a copy is changed.
        summed = dict(self.stops)
        for stop in other.stops:
            summed[stop] = summed.get(stop, 0) + other.stops[stop]
        self.stops = summed

    def ended(self):
        """How many of the runs ended."""
        return self.whole_runs

    def report(self):
        """The counts of all runs, broken ones too."""
        at_stops = stopped(self.web, [])
        for stop in self.stops:
            at_stops = added(at_stops, stopped(self.web, [stop]), self.stops[stop])
        return read_from(self.web, (self.choice, self.readings), self.marks, at_stops)
