"""Why a call is refused: an error class for each refusal."""


class NoText(Exception):
    pass


class NoStepLeft(Exception):
    pass


class NotToldRightly(Exception):
    pass


class NoRoomForStep(Exception):
    pass


class TooMuch(Exception):
    pass


class HarmsGuarded(Exception):
    pass
