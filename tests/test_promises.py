"""The promises, on many scripts that a fixed row of numbers makes up."""

import unittest

from tests.helper import apply, dry, guard, history, load, load_told, origins, redo, row, same, session, shown, text
from tests.helper import told, undo
from tests.test_patches import cost_as_told

MOST = 16


class Numbers:
    """Always the same numbers, one behind another."""

    def __init__(self, seed):
        self.state = seed

    def below(self, bound):
        self.state = (self.state * 1103515245 + 12345) % 2147483648
        return (self.state >> 12) % bound

    def one_of(self, choices):
        return choices[self.below(len(choices))]


def some_lines(numbers):
    return [numbers.one_of(["", "a", "b", "ab", "ba", "aab", "abab"]) for k in range(numbers.below(9))]


def some_letters(numbers):
    return numbers.one_of(["a", "b", "ab", "ba", "c"])


def some_address(numbers):
    least = 1 + numbers.below(6)
    address = numbers.one_of([
        ["all"], ["line", least], ["from", least, "to", least + numbers.below(4)], ["last"],
        ["has", some_letters(numbers)], ["is", some_letters(numbers)]])
    return ["not"] * numbers.one_of([0, 0, 0, 1, 2, 3]) + address


def some_deed(numbers):
    letters = some_letters(numbers)
    other = numbers.one_of(["none", "a", "bb", "cba"])
    return numbers.one_of([
        ["delete"], ["before", letters], ["after", letters], ["change", letters], ["swap", letters, other],
        ["first", letters, other], ["keep"], ["bring"], ["trade"], ["skip", 1 + numbers.below(3)], ["stop"]])


def some_commands(numbers):
    return [(some_address(numbers), some_deed(numbers)) for k in range(numbers.below(6))]


def written(numbers, commands):
    script = ""
    for address, deed in commands:
        for token in ["if"] + address + deed + [";"]:
            script += str(token) + numbers.one_of([" ", "\n", " \t", " # a b ;\n"])
    return script


def holds(address, number, last, line):
    word = address[0]
    if word == "not":
        return not holds(address[1:], number, last, line)
    return {
        "all": lambda: True,
        "line": lambda: number == address[1],
        "from": lambda: number in range(address[1], address[3] + 1),
        "last": lambda: number == last,
        "has": lambda: line.find(address[1]) >= 0,
        "is": lambda: line == address[1],
    }[word]()


def swapped(line, a, b, times):
    done = ""
    while line:
        if times and line.startswith(a):
            done, line, times = done + b, line[len(a):], times - 1
        else:
            done, line = done + line[0], line[1:]
    return done


def model(commands, lines, origins, step, most=24):
    """What comes of a text, line by line as the document tells it: lines,
    origins, what the step does, the numbers of the lines that it changes or
    lets go; None if it is too much."""
    comes = []
    effect = [0, 0, 0, 0]
    harmed = []
    held = ""
    for number, (line, origin) in enumerate(zip(lines, origins), start=1):
        found, ahead, behind, goes, skip = line, [], [], False, 0
        for address, deed in commands:
            if skip:
                skip -= 1
                continue
            if not holds(address, number, len(lines), line):
                continue
            word = deed[0]
            if word == "delete":
                goes = True
            if word in ("delete", "stop"):
                break
            if word == "before":
                ahead = ahead + [deed[1]]
            if word == "after":
                behind = behind + [deed[1]]
            if word == "bring":
                behind = behind + [held]
            if word == "change":
                line = deed[1]
            if word in ("swap", "first"):
                line = swapped(line, deed[1], deed[2].replace("none", ""), 1 if word == "first" else 99)
                if len(line) > MOST:
                    return None
            if word == "keep":
                held = line
            if word == "trade":
                line, held = held, line
            if word == "skip":
                skip = deed[1]
        comes += [(put, (0, step)) for put in ahead]
        if goes:
            effect[2] += 1
        elif line == found:
            effect[0] += 1
            comes.append((line, origin))
        else:
            effect[1] += 1
            comes.append((line, (origin[0], step)))
        if goes or line != found:
            harmed.append(number)
        comes += [(put, (0, step)) for put in behind]
        effect[3] += len(ahead) + len(behind)
    if len(comes) > most:
        return None
    return [line for line, origin in comes], [origin for line, origin in comes], effect, harmed


class Whole:
    """What each call answers, from the first text and the commands of all
    steps alone: whatever is asked is worked out anew from these."""

    def __init__(self):
        self.first = None
        self.steps = []
        self.undone = []
        self.letters = ""

    def states(self):
        states = [(self.first, [(number, 0) for number in range(1, len(self.first) + 1)])]
        for commands in self.steps:
            states.append(model(commands, *states[-1][:2], len(states)))
        return states

    def guarded(self):
        lines = self.states()[-1][0]
        return [number for number, line in enumerate(lines, start=1) if self.letters and self.letters in line]

    def load(self, lines):
        self.first, self.steps, self.undone, self.letters = lines, [], [], ""
        return [1, len(lines)]

    def trial(self, commands):
        made = model(commands, *self.states()[-1][:2], len(self.steps) + 1)
        return made and (made, [number for number in self.guarded() if number in made[3]])

    def apply(self, commands):
        if len(self.steps) == 20:
            return [-6]
        trial = self.trial(commands)
        if trial is None:
            return [-7]
        if trial[1]:
            return [-9]
        self.steps, self.undone = self.steps + [commands], []
        return [1, len(trial[0][0])] + trial[0][2]

    def dry(self, commands):
        trial = self.trial(commands)
        if trial is None:
            return [-7]
        cost = cost_as_told(self.states()[-1][0], trial[0][0])
        return [1, len(trial[0][0])] + trial[0][2] + [trial[1][0] if trial[1] else 0, cost]

    def undo(self):
        if not self.steps:
            return [-2]
        self.undone.append(self.steps.pop())
        return [1, len(self.states()[-1][0]), len(self.steps)]

    def redo(self):
        if not self.undone:
            return [-2]
        self.steps.append(self.undone.pop())
        return [1, len(self.states()[-1][0]), len(self.steps)]

    def shown(self):
        lines = self.states()[-1][0]
        return [len(lines)] + row(text(*lines))

    def origins(self):
        came = self.states()[-1][1]
        return [len(came)] + [number for origin in came for number in origin]

    def same(self, a, b):
        states = self.states()
        for number, state in enumerate(states):
            left, right = [model(commands, *state[:2], 0, most=60) for commands in (a, b)]
            if (left and left[0]) != (right and right[0]):
                return [0, 0, number]
        return [1, len(states)]

    def guard(self, letters):
        self.letters = letters
        return [1, len(self.guarded())]

    def history(self):
        return [len(self.steps), len(self.undone)] + [len(state[0]) for state in self.states()]


class RandomCase(unittest.TestCase):
    def some_histories(self, how_many, steps):
        """First lines and the steps made on them: commands and scripts."""
        for seed in range(how_many):
            numbers = Numbers(seed * 7919 + 1)
            first = some_lines(numbers)
            lines, origins = first, [(number, 0) for number in range(1, len(first) + 1)]
            scripts, states = [], [(lines, origins, None)]
            while len(scripts) < steps:
                commands = some_commands(numbers)
                made = model(commands, lines, origins, len(scripts) + 1)
                if made is not None and len(made[0]) < 14:
                    lines, origins = made[0], made[1]
                    scripts.append(written(numbers, commands))
                    states.append(made)
            yield first, scripts, states


class PromiseOneTest(RandomCase):
    def test_the_text_is_what_comes_of_its_steps(self):
        for first, scripts, states in self.some_histories(300, 6):
            with self.subTest(first=first, scripts=scripts):
                made = session(first)
                for script, state in zip(scripts, states[1:]):
                    answer = made.apply(row(script)[1:])
                    self.assertEqual(answer, [1, len(state[0])] + state[2])
                    self.assertEqual((made.now().lines, made.now().origins), state[:2])

    def test_undone_and_made_again_it_is_as_it_was(self):
        for first, scripts, states in self.some_histories(60, 8):
            with self.subTest(first=first, scripts=scripts):
                made = session(first, *scripts)
                for step in list(range(7, -1, -1)) + list(range(1, 9)):
                    answer = made.undo() if step < made.how_many_steps() else made.redo()
                    self.assertEqual(answer, [1, len(states[step][0]), step])
                    self.assertEqual((made.now().lines, made.now().origins), states[step][:2])


    def test_shown_and_origins_tell_it_undone_and_made_again(self):
        for first, scripts, states in self.some_histories(60, 6):
            with self.subTest(first=first, scripts=scripts):
                look = [shown(), origins()]
                calls = [load(*first)] + look
                for call in [apply(script) for script in scripts] + [undo()] * 6 + [redo()] * 6:
                    calls += [call] + look
                answered = told(*calls)
                for at, step in enumerate([0, 1, 2, 3, 4, 5, 6, 5, 4, 3, 2, 1, 0, 1, 2, 3, 4, 5, 6]):
                    lines, came = states[step][:2]
                    self.assertEqual(answered[3 * at + 1], [len(lines)] + row(text(*lines)))
                    self.assertEqual(answered[3 * at + 2], [len(lines)] + [number for origin in came for number in origin])


class PromiseTwoTest(RandomCase):
    def test_lines_of_the_first_text_as_they_are_told(self):
        for first, scripts, states in self.some_histories(100, 4):
            with self.subTest(first=first, scripts=scripts):
                answered = told(load(*first), *[apply(script) for script in scripts], shown(), origins())
                lines = "".join(map(chr, answered[-2][2:])).split("\n")[:-1]
                came = list(zip(answered[-1][1::2], answered[-1][2::2]))
                self.assertEqual([answered[-2][0], answered[-1][0]], [len(lines), len(lines)])
                numbers = [number for number, step in came if number > 0]
                self.assertEqual(numbers, sorted(set(numbers)))
                for line, (number, step) in zip(lines, came, strict=True):
                    self.assertIn(step, range(len(scripts) + 1))
                    if step == 0:
                        self.assertEqual(line, first[number - 1])

    def test_lines_of_the_first_text(self):
        for first, scripts, states in self.some_histories(300, 6):
            with self.subTest(first=first, scripts=scripts):
                now = session(first, *scripts).now()
                came = [origin[0] for origin in now.origins if origin[0] > 0]
                self.assertEqual(came, sorted(set(came)))
                for line, origin in zip(now.lines, now.origins):
                    if origin[1] == 0:
                        self.assertEqual(line, first[origin[0] - 1])


class PromiseThreeTest(RandomCase):
    def test_guarded_lines_are_all_there_behind_each_step(self):
        seen = {1: 0, -9: 0}
        for first, scripts, states in self.some_histories(300, 6):
            letters = ["a", "b", "ab", "ba", "bb"][len(scripts[0]) % 5]
            with self.subTest(first=first, scripts=scripts, letters=letters):
                calls = [load(*first), guard(letters)]
                for script in scripts:
                    calls += [shown(), origins(), dry(script), apply(script)]
                answered = told(*(calls + [shown(), origins()]))[2:]
                for at in range(0, len(answered) - 2, 4):
                    before, after = guarded_lines(letters, *answered[at:at + 2]), told_lines(*answered[at + 4:at + 6])
                    tried, made = answered[at + 2:at + 4]
                    if tried[0] == -7:
                        self.assertEqual(made, [-7])
                        continue
                    seen[made[0]] += 1
                    self.assertEqual(made, tried[:6] if tried[6] == 0 else [-9])
                    left = iter(after)
                    self.assertTrue(all(line in left for line in before), (before, after))
        self.assertGreater(min(seen.values()), 300, seen)


def told_lines(shown_answer, origins_answer):
    """Each line with its origin, from what shown and origins answered."""
    lines = "".join(map(chr, shown_answer[2:])).split("\n")[:-1]
    return list(zip(lines, origins_answer[1::2], origins_answer[2::2], strict=True))


def guarded_lines(letters, shown_answer, origins_answer):
    return [line for line in told_lines(shown_answer, origins_answer) if letters in line[0]]


class PromiseFourTest(RandomCase):
    def test_a_step_does_what_the_dry_one_told(self):
        for first, scripts, states in self.some_histories(300, 6):
            with self.subTest(first=first, scripts=scripts):
                calls = [load(*first)]
                for script in scripts:
                    calls += [dry(script), apply(script)]
                answered = told(*calls)
                self.assertEqual(answered[0], [1, len(first)])
                for step, state in enumerate(states[1:], start=1):
                    tried, made = answered[2 * step - 1], answered[2 * step]
                    before = states[step - 1][0]
                    self.assertEqual(made, [1, len(state[0])] + state[2])
                    self.assertEqual(tried, made + [0, cost_as_told(before, state[0])])
                    self.assertEqual(sum(state[2][:3]), len(before))

    def test_it_is_refused_where_the_dry_one_is(self):
        refused = 0
        for seed in range(400):
            numbers = Numbers(seed * 31 + 7)
            first = [numbers.one_of(["a", "abababab", "bbbbbbbb"]) for k in range(1 + numbers.below(24))]
            commands = some_commands(numbers)
            script = written(numbers, commands)
            with self.subTest(first=first, script=script):
                made = model(commands, first, [(0, 0)] * len(first), 1)
                tried, done = told(load(*first), dry(script), apply(script))[1:]
                if made is None:
                    refused += 1
                    self.assertEqual((tried, done), ([-7], [-7]))
                else:
                    self.assertEqual((tried[:6], done), (done, [1, len(made[0])] + made[2]))
        self.assertGreater(refused, 40)


class PromiseFiveTest(RandomCase):
    def test_two_scripts_told_to_come_to_the_same_do_on_each_text(self):
        seen = {True: 0, False: 0}
        numbers = Numbers(5)
        for first, scripts, states in self.some_histories(150, 3):
            for times in range(4):
                a = some_commands(numbers)[:2]
                b = some_commands(numbers)[:2]
                a, b = written(numbers, a), written(numbers, b)
                with self.subTest(first=first, scripts=scripts, a=a, b=b):
                    answer = told(load(*first), *[apply(script) for script in scripts], same(a, b))[-1]
                    come = [(told(load(*state[0]), apply(a), shown())[1:], told(load(*state[0]), apply(b), shown())[1:])
                            for state in states]
                    alike = [left[1] == right[1] and (left[0][0] == right[0][0]) for left, right in come]
                    seen[all(alike)] += 1
                    self.assertEqual(answer, [1, 4] if all(alike) else [0, 0, alike.index(False)])
        self.assertGreater(min(seen.values()), 60, seen)


FAULTS = [("delete", 3, 6), ("keep ; !", 2, 7), ("skip 0 ;", 7, 5), ("keep ;" * 17, 4, 96), (" " * 4097, 1, 4096)]


class AllKindsTest(unittest.TestCase):
    """Lists of 40 calls of all kinds, held against what the model answers."""

    def some_script(self, numbers):
        """A script as it is written and its commands, or its fault."""
        if numbers.below(20) == 0:
            script, code, place = numbers.one_of(FAULTS)
            return script, None, [0, code, place]
        commands = some_commands(numbers)
        return written(numbers, commands), commands, None

    def some_call(self, numbers, whole, many_steps):
        """A call and what is to be answered to it."""
        kind = numbers.one_of(["load"] + ["apply"] * 12 + ["dry"] * 3 + ["undo"] * 4 + ["redo"] * 4 + ["shown"] * 3 +
                              ["origins"] * 3 + ["same"] * 3 + ["guard"] * 2 + ["history"] * 2)
        if many_steps and kind in ("load", "undo", "guard"):
            kind = "apply"
        if kind == "load":
            lines = some_lines(numbers)
            if numbers.below(2) == 0:
                return load_told(text(*lines) + "a"), [-4]
            return load(*lines), whole.load(lines)
        if kind in ("apply", "dry"):
            script, commands, fault = self.some_script(numbers)
            call = apply(script) if kind == "apply" else dry(script)
            return call, self.due(whole, lambda: fault or getattr(whole, kind)(commands))
        if kind == "same":
            a, commands_a, fault_a = self.some_script(numbers)
            b, commands_b, fault_b = (a, commands_a, fault_a) if numbers.below(3) == 0 else self.some_script(numbers)
            return same(a, b), self.due(whole, lambda: fault_a or fault_b or whole.same(commands_a, commands_b))
        if kind == "guard":
            letters = numbers.one_of(["", "a", "b", "ab", "bab", "none", "A", "a b", "a" * 17])
            wrong = letters in ("A", "a b", "a" * 17)
            return guard(letters), self.due(whole, lambda: [-4] if wrong else whole.guard(letters))
        call = {"undo": undo, "redo": redo, "shown": shown, "origins": origins, "history": history}[kind]()
        return call, self.due(whole, getattr(whole, kind))

    def due(self, whole, answer):
        return [-1] if whole.first is None else answer()

    def test_lists_of_40_calls(self):
        codes = set()
        for seed in range(150):
            numbers = Numbers(seed * 104729 + 3)
            whole, calls, wanted = Whole(), [], []
            for at in range(40):
                if at == 2 and whole.first is None:
                    lines = some_lines(numbers) + ["ab", "b"]
                    call, answer = load(*lines), whole.load(lines)
                else:
                    call, answer = self.some_call(numbers, whole, at >= 2 and seed % 3 == 0)
                calls.append(call)
                wanted.append(answer)
                codes.add(min(answer[0], 0))
            with self.subTest(seed=seed):
                for call, answer, due in zip(calls, told(*calls), wanted, strict=True):
                    self.assertEqual(answer, due, call)
        self.assertEqual(codes, {0, -1, -2, -4, -6, -7, -9})


if __name__ == "__main__":
    unittest.main()
