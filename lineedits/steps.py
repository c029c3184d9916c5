"""Steps: what a run makes of a text whose lines have origins."""

from lineedits.runs import result_of


# A text at one time. An origin is a tuple: the first text's line, or 0, and
# the step that put the line or changed it last, or 0.
class Version:
    def __init__(self, lines, origins):
        self.lines = lines
        self.origins = origins


def first_version(lines):
    return Version(lines, [(number, 0) for number in range(1, len(lines) + 1)])


def version_behind(version, passages, step):
    origins = []
    for passage, origin in zip(passages, version.origins):
        origins.extend(origins_coming(passage, origin, step))
    return Version(result_of(passages), origins)


def origins_coming(passage, origin, step):
    itself = []
    if passage.stays:
        itself = [(origin[0], step) if passage.is_changed() else origin]
    put = (0, step)
    return [put] * len(passage.ahead) + itself + [put] * len(passage.behind)


# How many lines come as they were, are changed, go, are put.
def effect_of(passages):
    return [
        len([1 for passage in passages if passage.is_as_found()]),
        len([1 for passage in passages if passage.is_changed()]),
        len([1 for passage in passages if not passage.stays]),
        sum([len(passage.ahead) + len(passage.behind) for passage in passages]),
    ]


# Without letters nothing is guarded, though no letters stand in every line.
def is_guarded(line, guarded):
    return guarded != "" and guarded in line


# The number of the first guarded line that is changed or goes, or 0.
def first_harmed(passages, guarded):
    for passage in passages:
        if is_guarded(passage.found, guarded) and not passage.is_as_found():
            return passage.number
    return 0
