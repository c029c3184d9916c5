"""Steps: what a run makes of a text whose lines have origins."""


# A text at one time. An origin is a tuple: the first text's line, or 0, and
# the step that put the line or changed it last, or 0.
class Version:
    def __init__(self, lines, origins):
        self.lines = lines
        self.origins = origins


def first_version(lines):
    return Version(lines, [(number, 0) for number in range(1, len(lines) + 1)])


def version_behind(version, passages, step):
    lines = []
    origins = []
    for passage, origin in zip(passages, version.origins):
        lines.extend(passage.ahead)
        origins.extend([(0, step)] * len(passage.ahead))
        if passage.stays:
            lines.append(passage.line)
            origins.append((origin[0], step) if passage.is_changed() else origin)
        lines.extend(passage.behind)
        origins.extend([(0, step)] * len(passage.behind))
    return Version(lines, origins)


# How many lines come as they were, are changed, go, are put.
def effect_of(passages):
    return [
        len([1 for passage in passages if passage.is_as_found()]),
        len([1 for passage in passages if passage.is_changed()]),
        len([1 for passage in passages if not passage.stays]),
        sum([len(passage.ahead) + len(passage.behind) for passage in passages]),
    ]


# The number of the first guarded line that is changed or goes, or 0.
def first_harmed(passages, guarded):
    # Without letters nothing is guarded, though no letters stand in every line.
    if guarded == "":
        return 0
    for passage in passages:
        if guarded in passage.found and not passage.is_as_found():
            return passage.number
    return 0
