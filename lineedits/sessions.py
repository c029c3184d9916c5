"""The object that the calls are made on: a text and its history."""

from lineedits.patches import patch_cost
from lineedits.refusals import HarmsGuarded, NoRoomForStep, NoStepLeft, TooMuch
from lineedits.runs import outcome_of, run
from lineedits.scripts import commands_of
from lineedits.steps import effect_of, first_harmed, first_version, is_guarded, version_behind
from lineedits.texts import MOST_LINES, letters_told, lines_of, told_as_bytes

MOST_STEPS = 20


# versions: the first text and the text behind each step, so the last one is
# the text as it is now; none while there is no text.
class Session:
    def __init__(self):
        self.versions = []
        self.undone = []
        self.guarded = ""

    def has_text(self):
        return len(self.versions) > 0

    def now(self):
        return self.versions[len(self.versions) - 1]

    def how_many_steps(self):
        return len(self.versions) - 1

    def load(self, row):
        lines = lines_of(row)
        self.versions = [first_version(lines)]
        self.undone = []
        self.guarded = ""
        return [1, len(lines)]

    def apply(self, script):
        commands = commands_of(script)
        if self.how_many_steps() == MOST_STEPS:
            raise NoRoomForStep()
        trial = self.attempt(commands)
        if trial.harmed > 0:
            raise HarmsGuarded()
        self.versions.append(trial.version)
        self.undone = []
        return [1, len(trial.version.lines)] + trial.effect

    def dry(self, script):
        trial = self.attempt(commands_of(script))
        cost = patch_cost(self.now().lines, trial.version.lines)
        return [1, len(trial.version.lines)] + trial.effect + [trial.harmed, cost]

    def attempt(self, commands):
        before = self.now()
        passages = run(commands, before.lines)
        version = version_behind(before, passages, self.how_many_steps() + 1)
        if len(version.lines) > MOST_LINES:
            raise TooMuch()
        return Trial(version, effect_of(passages), first_harmed(passages, self.guarded))

    def undo(self):
        if self.how_many_steps() == 0:
            raise NoStepLeft()
        self.undone.append(self.versions.pop())
        return self.where_it_stands()

    def redo(self):
        if len(self.undone) == 0:
            raise NoStepLeft()
        self.versions.append(self.undone.pop())
        return self.where_it_stands()

    def where_it_stands(self):
        return [1, len(self.now().lines), self.how_many_steps()]

    def shown(self):
        told = told_as_bytes(self.now().lines)
        return [len(self.now().lines), len(told)] + told

    def origins_now(self):
        told = [len(self.now().lines)]
        for origin in self.now().origins:
            told.extend(list(origin))
        return told

    def same(self, a, b):
        commands_a = commands_of(a)
        commands_b = commands_of(b)
        for number, version in enumerate(self.versions):
            if outcome_of(commands_a, version.lines) != outcome_of(commands_b, version.lines):
                return [0, 0, number]
        return [1, len(self.versions)]

    def guard(self, row):
        self.guarded = letters_told(row)
        return [1, len([1 for line in self.now().lines if is_guarded(line, self.guarded)])]

    def history(self):
        sizes = [len(version.lines) for version in self.versions]
        return [self.how_many_steps(), len(self.undone)] + sizes


# What a step would come to, before it is made.
class Trial:
    def __init__(self, version, effect, harmed):
        self.version = version
        self.effect = effect
        self.harmed = harmed
