"""A desk: requests, one on each line of a text, that are done on a Board, and their answers."""

from lateplans.board import Board
from lateplans.errors import BadLine, BadPair, BadText, Known, NoPlan, NothingDone, NoWork, OtherWorks
from lateplans.hands import hands_needed, time_by
from lateplans.names import is_name, is_written
from lateplans.plans import Plan, in_row
from lateplans.texts import durations_from, works_text
from lateplans.whenever import always_with, fewest_guards

# For each request how many NAMEs stand behind its first word, and what stands behind these.
SHAPES = {
    "plan": (1, "plan"), "drop": (1, ""), "rename": (2, ""), "wait": (3, ""), "free": (3, ""), "undo": (0, ""),
    "names": (0, ""), "text": (1, ""), "time": (1, "durations"), "by": (1, "hands"), "row": (3, ""),
    "always": (3, ""), "guards": (1, ""), "hands": (1, ""), "factor": (2, ""), "never": (2, ""),
}


def answers(text):
    """The answers to the lines of the text; raises BadLine(number)."""
    lines = text.split("\n") if text else []
    requests = []
    for number, line in enumerate(lines):
        request = _request(line)
        if request is None:
            raise BadLine(number)
        requests.append(request)
    board = Board()
    found = []
    for word, names, more in requests:
        found.append(_answer(board, word, names, more))
    return found


def _request(line):
    """The first word, the NAMEs behind it and what is read from the rest; None if it is not so written."""
    words = line.split(" ")
    if words[0] not in SHAPES:
        return None
    many, shape = SHAPES[words[0]]
    names = words[1:1 + many]
    if len(names) < many or not all([is_name(name) for name in names]):
        return None
    try:
        return (words[0], names, _read(shape, words[1 + many:]))
    except BadText:
        return None


def _read(shape, words):
    """What the words behind the NAMEs tell; raises BadText(piece)."""
    if shape == "plan":
        return Plan.of(" ".join(words))
    if shape == "durations":
        return durations_from(" ".join(words))
    if shape == "hands":
        if words == [] or not is_written(words[0]) or words[0] == "0":
            raise BadText(0)
        return (int(words[0]), durations_from(" ".join(words[1:])))
    if words:
        raise BadText(0)
    return None


def _answer(board, word, names, more):
    """The answer to a request."""
    action = ACTIONS[word]
    try:
        return action(board, names, more)
    except NoPlan:
        return "refused NoPlan"
    except Known:
        return "refused Known"
    except NoWork:
        return "refused NoWork"
    except BadPair:
        return "refused BadPair"
    except OtherWorks:
        return "refused OtherWorks"
    except NothingDone:
        return "refused NothingDone"


def _yes_or_no(told):
    """The word for this."""
    return "yes" if told else "no"


def _plan(board, names, more):
    board.put(names[0], more)
    return "done"


def _drop(board, names, more):
    board.drop(names[0])
    return "done"


def _rename(board, names, more):
    board.rename(names[0], names[1])
    return "done"


def _wait(board, names, more):
    board.wait(names[0], names[1], names[2])
    return "done"


def _free(board, names, more):
    board.free(names[0], names[1], names[2])
    return "done"


def _undo(board, names, more):
    board.undo()
    return "done"


def _names(board, names, more):
    return works_text(board.names)


def _text(board, names, more):
    return board[names[0]].text


def _time(board, names, more):
    return str(board.time_of(names[0], more))


def _by(board, names, more):
    plan = board[names[0]]
    hands, durations = more
    return str(time_by(plan, durations, hands, plan.works))


def _row(board, names, more):
    return _yes_or_no(in_row(board[names[0]], names[1], names[2]))


def _always(board, names, more):
    return _yes_or_no(always_with(board[names[0]], names[1], names[2]))


def _guards(board, names, more):
    found = fewest_guards(board[names[0]])
    return "0" if found is None else str(len(found))


def _hands(board, names, more):
    return str(hands_needed(board[names[0]]))


def _factor(board, names, more):
    return str(board.factor(names[0], names[1]))


def _never(board, names, more):
    return _yes_or_no(board.never_longer(names[0], names[1]))


# Behind all that they name.
ACTIONS = {
    "plan": _plan, "drop": _drop, "rename": _rename, "wait": _wait, "free": _free, "undo": _undo, "names": _names,
    "text": _text, "time": _time, "by": _by, "row": _row, "always": _always, "guards": _guards, "hands": _hands,
    "factor": _factor, "never": _never,
}
