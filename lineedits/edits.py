"""The calls on one object, told and answered in lists of whole numbers."""

from lineedits.faults import Fault
from lineedits.refusals import HarmsGuarded, NoRoomForStep, NoStepLeft
from lineedits.refusals import NotToldRightly, NoText, TooMuch
from lineedits.sessions import Session

LOAD = 0
APPLY = 1
DRY = 2
UNDO = 3
REDO = 4
SHOWN = 5
ORIGINS = 6
SAME = 7
GUARD = 8
HISTORY = 9

# How many rows each call has, by its number.
ROWS = (1, 1, 1, 0, 0, 0, 0, 2, 1, 0)


def answers(calls):
    session = Session()
    answered = []
    at = 0
    while at < len(calls):
        call = calls[at]
        at += 1
        rows = []
        for row in range(ROWS[call]):
            behind = at + 1 + calls[at]
            rows.append(calls[at + 1:behind])
            at = behind
        answer = answer_or_refusal(session, call, rows)
        answered.append(len(answer))
        answered.extend(answer)
    return answered


# Whatever is raised is raised before the object is changed.
def answer_or_refusal(session, call, rows):
    try:
        return answer_of(session, call, rows)
    except Fault as e:
        return [0, e.code, e.place]
    except NoText:
        return [-1]
    except NoStepLeft:
        return [-2]
    except NotToldRightly:
        return [-4]
    except NoRoomForStep:
        return [-6]
    except TooMuch:
        return [-7]
    except HarmsGuarded:
        return [-9]


def answer_of(session, call, rows):
    if call == LOAD:
        return session.load(rows[0])
    if not session.has_text():
        raise NoText()
    if call == APPLY:
        return session.apply(rows[0])
    if call == DRY:
        return session.dry(rows[0])
    if call == UNDO:
        return session.undo()
    if call == REDO:
        return session.redo()
    if call == SHOWN:
        return session.shown()
    if call == ORIGINS:
        return session.origins_now()
    if call == SAME:
        return session.same(rows[0], rows[1])
    if call == GUARD:
        return session.guard(rows[0])
    if call == HISTORY:
        return session.history()
