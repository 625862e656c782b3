"""Sets of works, PAIRS and DURATIONS as texts, and read from texts."""

from lateplans.errors import BadText
from lateplans.names import is_name, is_written
from lateplans.times import begins, ends


def works_text(works):
    """The text of a set of NAMEs."""
    return " ".join(works) if works else "-"


def pairs_text(pairs):
    """The text of PAIRS."""
    return "; ".join([f"{one} {other}" for one, other in pairs]) if pairs else "-"


def durations_text(durations):
    """The text of DURATIONS."""
    return " ".join([str(lasts) for lasts in durations]) if durations else "-"


def works_from(text):
    """The set of NAMEs with this text; raises BadText(piece)."""
    words = _pieces(text, " ")
    for piece, word in enumerate(words):
        if not is_name(word) or (piece > 0 and words[piece - 1] >= word):
            raise BadText(piece)
    return tuple(words)


def pairs_from(text):
    """The ascending pairs of unlike NAMEs with this text; raises BadText(piece)."""
    rows = [tuple(piece.split(" ")) for piece in _pieces(text, "; ")]
    for piece, row in enumerate(rows):
        if not _is_pair(row) or (piece > 0 and rows[piece - 1] >= row):
            raise BadText(piece)
    return tuple(rows)


def durations_from(text):
    """The numbers with this text; raises BadText(piece)."""
    words = _pieces(text, " ")
    for piece, word in enumerate(words):
        if not is_written(word):
            raise BadText(piece)
    return tuple([int(word) for word in words])


def lines_of(plan, durations):
    """For each work a line with its NAME, when it begins and when it ends."""
    return [
        f"{name}: {start} to {stop}"
        for name, start, stop in zip(plan.works, begins(plan, durations), ends(plan, durations))
    ]


def _pieces(text, between):
    """The pieces of the text, which stand with this sign between."""
    return [] if text == "-" else text.split(between)


def _is_pair(row):
    """Whether these words are a pair of unlike NAMEs."""
    return len(row) == 2 and all([is_name(word) for word in row]) and row[0] != row[1]
