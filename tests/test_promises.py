"""The promises, on many scripts that a fixed row of numbers makes up."""

import unittest

from tests.helper import apply, dry, load, row, session, told
from tests.test_patches import cost_as_told

MOST = 16


class Numbers:
    """Always the same numbers, one behind another."""

    def __init__(self, seed):
        self.state = seed

    def below(self, bound):
        self.state = (self.state * 1103515245 + 12345) % 2147483648
        return (self.state >> 12) % bound

    def one_of(self, choices):
        return choices[self.below(len(choices))]


def some_lines(numbers):
    return [numbers.one_of(["", "a", "b", "ab", "ba", "aab", "abab"]) for k in range(numbers.below(9))]


def some_letters(numbers):
    return numbers.one_of(["a", "b", "ab", "ba", "c"])


def some_address(numbers):
    least = 1 + numbers.below(6)
    address = numbers.one_of([
        ["all"], ["line", least], ["from", least, "to", least + numbers.below(4)], ["last"],
        ["has", some_letters(numbers)], ["is", some_letters(numbers)]])
    return ["not"] * numbers.one_of([0, 0, 0, 1, 2, 3]) + address


def some_deed(numbers):
    letters = some_letters(numbers)
    other = numbers.one_of(["none", "a", "bb", "cba"])
    return numbers.one_of([
        ["delete"], ["before", letters], ["after", letters], ["change", letters], ["swap", letters, other],
        ["first", letters, other], ["keep"], ["bring"], ["trade"], ["skip", 1 + numbers.below(3)], ["stop"]])


def some_commands(numbers):
    return [(some_address(numbers), some_deed(numbers)) for k in range(numbers.below(6))]


def written(numbers, commands):
    script = ""
    for address, deed in commands:
        for token in ["if"] + address + deed + [";"]:
            script += str(token) + numbers.one_of([" ", "\n", " \t", " # a b ;\n"])
    return script


def holds(address, number, last, line):
    word = address[0]
    if word == "not":
        return not holds(address[1:], number, last, line)
    return {
        "all": lambda: True,
        "line": lambda: number == address[1],
        "from": lambda: number in range(address[1], address[3] + 1),
        "last": lambda: number == last,
        "has": lambda: line.find(address[1]) >= 0,
        "is": lambda: line == address[1],
    }[word]()


def swapped(line, a, b, times):
    done = ""
    while line:
        if times and line.startswith(a):
            done, line, times = done + b, line[len(a):], times - 1
        else:
            done, line = done + line[0], line[1:]
    return done


def model(commands, lines, origins, step):
    """What comes of a text, line by line as the document tells it: lines,
    origins, what the step does; None if it is too much."""
    comes = []
    effect = [0, 0, 0, 0]
    held = ""
    for number, (line, origin) in enumerate(zip(lines, origins), start=1):
        found, ahead, behind, goes, skip = line, [], [], False, 0
        for address, deed in commands:
            if skip:
                skip -= 1
                continue
            if not holds(address, number, len(lines), line):
                continue
            word = deed[0]
            if word == "delete":
                goes = True
            if word in ("delete", "stop"):
                break
            if word == "before":
                ahead = ahead + [deed[1]]
            if word == "after":
                behind = behind + [deed[1]]
            if word == "bring":
                behind = behind + [held]
            if word == "change":
                line = deed[1]
            if word in ("swap", "first"):
                line = swapped(line, deed[1], deed[2].replace("none", ""), 1 if word == "first" else 99)
                if len(line) > MOST:
                    return None
            if word == "keep":
                held = line
            if word == "trade":
                line, held = held, line
            if word == "skip":
                skip = deed[1]
        comes += [(put, (0, step)) for put in ahead]
        if goes:
            effect[2] += 1
        elif line == found:
            effect[0] += 1
            comes.append((line, origin))
        else:
            effect[1] += 1
            comes.append((line, (origin[0], step)))
        comes += [(put, (0, step)) for put in behind]
        effect[3] += len(ahead) + len(behind)
    if len(comes) > 24:
        return None
    return [line for line, origin in comes], [origin for line, origin in comes], effect


class RandomCase(unittest.TestCase):
    def some_histories(self, how_many, steps):
        """First lines and the steps made on them: commands and scripts."""
        for seed in range(how_many):
            numbers = Numbers(seed * 7919 + 1)
            first = some_lines(numbers)
            lines, origins = first, [(number, 0) for number in range(1, len(first) + 1)]
            scripts, states = [], [(lines, origins, None)]
            while len(scripts) < steps:
                commands = some_commands(numbers)
                made = model(commands, lines, origins, len(scripts) + 1)
                if made is not None and len(made[0]) < 14:
                    lines, origins = made[0], made[1]
                    scripts.append(written(numbers, commands))
                    states.append(made)
            yield first, scripts, states


class PromiseOneTest(RandomCase):
    def test_the_text_is_what_comes_of_its_steps(self):
        for first, scripts, states in self.some_histories(300, 6):
            with self.subTest(first=first, scripts=scripts):
                made = session(first)
                for script, state in zip(scripts, states[1:]):
                    answer = made.apply(row(script)[1:])
                    self.assertEqual(answer, [1, len(state[0])] + state[2])
                    self.assertEqual((made.now().lines, made.now().origins), state[:2])

    def test_undone_and_made_again_it_is_as_it_was(self):
        for first, scripts, states in self.some_histories(60, 8):
            with self.subTest(first=first, scripts=scripts):
                made = session(first, *scripts)
                for step in list(range(7, -1, -1)) + list(range(1, 9)):
                    answer = made.undo() if step < made.how_many_steps() else made.redo()
                    self.assertEqual(answer, [1, len(states[step][0]), step])
                    self.assertEqual((made.now().lines, made.now().origins), states[step][:2])


class PromiseTwoTest(RandomCase):
    def test_lines_of_the_first_text(self):
        for first, scripts, states in self.some_histories(300, 6):
            with self.subTest(first=first, scripts=scripts):
                now = session(first, *scripts).now()
                came = [origin[0] for origin in now.origins if origin[0] > 0]
                self.assertEqual(came, sorted(set(came)))
                for line, origin in zip(now.lines, now.origins):
                    if origin[1] == 0:
                        self.assertEqual(line, first[origin[0] - 1])


class PromiseFourTest(RandomCase):
    def test_a_step_does_what_the_dry_one_told(self):
        for first, scripts, states in self.some_histories(300, 6):
            with self.subTest(first=first, scripts=scripts):
                calls = [load(*first)]
                for script in scripts:
                    calls += [dry(script), apply(script)]
                answered = told(*calls)
                self.assertEqual(answered[0], [1, len(first)])
                for step, state in enumerate(states[1:], start=1):
                    tried, made = answered[2 * step - 1], answered[2 * step]
                    before = states[step - 1][0]
                    self.assertEqual(made, [1, len(state[0])] + state[2])
                    self.assertEqual(tried, made + [0, cost_as_told(before, state[0])])
                    self.assertEqual(sum(state[2][:3]), len(before))

    def test_it_is_refused_where_the_dry_one_is(self):
        refused = 0
        for seed in range(400):
            numbers = Numbers(seed * 31 + 7)
            first = [numbers.one_of(["a", "abababab", "bbbbbbbb"]) for k in range(1 + numbers.below(24))]
            commands = some_commands(numbers)
            script = written(numbers, commands)
            with self.subTest(first=first, script=script):
                made = model(commands, first, [(0, 0)] * len(first), 1)
                tried, done = told(load(*first), dry(script), apply(script))[1:]
                if made is None:
                    refused += 1
                    self.assertEqual((tried, done), ([-7], [-7]))
                else:
                    self.assertEqual((tried[:6], done), (done, [1, len(made[0])] + made[2]))
        self.assertGreater(refused, 40)


if __name__ == "__main__":
    unittest.main()
