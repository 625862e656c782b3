"""Point [21]: a desk."""

import random
import re
import unittest

from lateplans.board import Board
from lateplans.desk import answers
from lateplans.errors import BadLine, PlanError
from lateplans.hands import hands_needed, time_by
from lateplans.plans import Plan, in_row
from lateplans.whenever import always_with, fewest_guards
from tests.asserts import Case
from tests.oracle import (
    LETTERS, bits_durations, every_plan, first_bad, great, longest_rows, lots, mates, rows, some_plans, subsets, time_by_rows,
)
from tests.test_board import Slow
from tests.test_hands import slow_time

NAME, NUMBER = "[a-z]{1,8}", "(?:0|[1-9][0-9]*)"
DURATIONS = "(?:-|" + NUMBER + "(?: " + NUMBER + ")*)"
FORMS = {
    "plan": NAME + " .*", "drop": NAME, "rename": NAME + " " + NAME, "wait": " ".join([NAME] * 3),
    "free": " ".join([NAME] * 3), "undo": None, "names": None, "text": NAME, "time": NAME + " " + DURATIONS,
    "by": NAME + " [1-9][0-9]* " + DURATIONS, "row": " ".join([NAME] * 3), "always": " ".join([NAME] * 3),
    "guards": NAME, "hands": NAME, "factor": NAME + " " + NAME, "never": NAME + " " + NAME,
}
PLANS = ["-", "a", "a b", "a b; a b", "a b; b a", "a b c", "a b c; a b; b c", "a b c; a c; b c", "a b c d; a b; a c; b d; c d"]


def is_plan(text):
    """Whether this is the text of a Plan."""
    head, *pieces = text.split("; ")
    works = tuple(head.split(" ")) if head != "-" else ()
    pairs = [tuple(piece.split(" ")) for piece in pieces]
    if not all(re.fullmatch(NAME, name) for name in works) or list(works) != sorted(set(works)):
        return False
    return all(len(pair) == 2 for pair in pairs) and pairs == sorted(set(pairs)) and first_bad(works, pairs) is None


def is_line(line):
    word, _, rest = line.partition(" ")
    if word not in FORMS:
        return False
    if FORMS[word] is None:
        return line == word
    if not re.fullmatch(FORMS[word], rest):
        return False
    return word != "plan" or is_plan(rest.partition(" ")[2])


def first_bad_line(text):
    for number, line in enumerate(text.split("\n") if text else []):
        if not is_line(line):
            return number
    return None


def slow_answers(text):
    """The answers, by plain reckonings over all rows, lots and sets."""
    board = Slow()
    return [slow_answer(board, line.split(" ")) for line in text.split("\n")]


def slow_answer(board, words):
    word, rest = words[0], words[1:]
    if word in ("plan", "drop", "rename", "wait", "free", "undo"):
        deed = "put" if word == "plan" else word
        if word == "plan":
            rest = [rest[0], Plan.of(" ".join(rest[1:]))]
        wrong = board.refusal(deed, rest)
        if wrong is None:
            board.do(deed, rest)
        return "done" if wrong is None else "refused " + wrong[0].__name__
    if word == "names":
        return " ".join(sorted(board.plans)) or "-"
    for name in rest[:2 if word in ("factor", "never") else 1]:
        if name not in board.plans:
            return "refused NoPlan"
    return slow_question(board, word, rest)


def slow_question(board, word, rest):
    plan = board.plan(rest[0])
    if word in ("time", "by"):
        numbers = rest[1:] if word == "time" else rest[2:]
        durations = () if numbers == ["-"] else tuple(int(own) for own in numbers)
        if len(durations) != len(plan):
            return "refused OtherWorks"
        told = time_by_rows(plan, durations) if word == "time" else slow_time(plan, durations, int(rest[1]), plan.works)
        return str(told)
    if word in ("row", "always"):
        if rest[1] not in plan.works or rest[2] not in plan.works:
            return "refused NoWork"
        if word == "row":
            return "yes" if (rest[1], rest[2]) in mates(plan) else "no"
        longest = [{name for row in longest_rows(plan, own) for name in row} for own in bits_durations(plan)]
        return "yes" if all(rest[1] in some for some in longest if rest[2] in some) else "no"
    if word in ("factor", "never"):
        other = board.plan(rest[1])
        if plan.works != other.works:
            return "refused OtherWorks"
        many = max(len(some) for some in rows(plan) if some in lots(other))
        return str(many) if word == "factor" else "yes" if many <= 1 else "no"
    if word == "guards":
        sure = [some for some in subsets(plan.works) if all(set(some) & set(row) for row in great(rows(plan)))]
        return str(len(sure[0])) if plan.works else "0"
    return plan.text if word == "text" else str(max([1] + [len(lot) for lot in lots(plan)]))


def random_line(chance):
    def name():
        return chance.choice(("x", "y", "house"))

    def work():
        return chance.choice("abcz")

    def durations():
        return " ".join(chance.choice(("0", "1", "2", "30")) for _ in range(chance.randint(1, 4))) if chance.random() < 0.9 else "-"

    word = chance.choice(list(FORMS) + ["plan"] * 5)
    return {
        "plan": lambda: "plan " + name() + " " + chance.choice(PLANS), "undo": lambda: "undo", "names": lambda: "names",
        "time": lambda: "time " + name() + " " + durations(),
        "by": lambda: "by " + name() + " " + chance.choice(("1", "2", "3", "1" + "0" * 30)) + " " + durations(),
    }.get(word, lambda: " ".join(
        [word, name()] + ([name()] if word in ("rename", "factor", "never") else [])
        + ([work(), work()] if word in ("wait", "free", "row", "always") else [])
    ))()


class Answers(Case):
    def test_many_lines(self):
        chance, seen = random.Random(22), set()
        for _ in range(120):
            text = "\n".join(random_line(chance) for _ in range(chance.randint(1, 60)))
            told = slow_answers(text)
            self.same(self.asked(answers, text), told)
            seen.update(zip([line.split(" ")[0] for line in text.split("\n")], told))
        for word in FORMS:
            self.assertGreater(len({told for first, told in seen if first == word}), 1, word)

    def test_each_refusal(self):
        lines = [
            ("undo", "NothingDone"), ("plan x a b; a b", None), ("plan x -", "Known"), ("drop y", "NoPlan"),
            ("rename y x", "NoPlan"), ("rename x x", "Known"), ("wait y a b", "NoPlan"), ("wait x a c", "NoWork"),
            ("wait x b a", "BadPair"), ("wait x a a", "BadPair"), ("free y a b", "NoPlan"), ("free x c a", "NoWork"),
            ("text y", "NoPlan"), ("time y 1", "NoPlan"), ("time x 1", "OtherWorks"), ("time x -", "OtherWorks"),
            ("time x 1 2 3", "OtherWorks"), ("by y 1 1", "NoPlan"), ("by x 2 1", "OtherWorks"), ("by x 2 -", "OtherWorks"),
            ("row y a b", "NoPlan"), ("row x a c", "NoWork"), ("always y a b", "NoPlan"), ("always x c a", "NoWork"),
            ("guards y", "NoPlan"), ("hands y", "NoPlan"), ("factor x y", "NoPlan"), ("factor y x", "NoPlan"),
            ("never x y", "NoPlan"), ("plan z a", None), ("factor x z", "OtherWorks"), ("never z x", "OtherWorks"),
        ]
        told = answers("\n".join(line for line, _ in lines) + "\nnames\ntext x\ntext z")
        self.same(told[-3:], ["x z", "a b; a b", "a"])
        self.same(told[:-3], ["done" if name is None else "refused " + name for _, name in lines])

    def test_a_refused_deed_is_not_undone(self):
        text = "plan x a b\nwait x a b\nwait x b a\nplan x -\nrename x x\nundo\ntext x\nundo\nnames\nundo"
        self.same(answers(text), [
            "done", "done", "refused BadPair", "refused Known", "refused Known", "done", "a b", "done", "-",
            "refused NothingDone",
        ])

    def test_each_text_has_its_own_board(self):
        for _ in range(2):
            self.same(answers("plan x -\nnames"), ["done", "x"])
        self.same(answers("names\nundo"), ["-", "refused NothingDone"])

    def test_no_lines_and_lists_that_are_changed(self):
        told = answers("")
        told.append("more")
        self.same((answers(""), answers(text="")), ([], []))

    def test_no_works(self):
        self.same(
            answers("plan x -\nguards x\nhands x\ntime x -\nby x 9 -\ntext x\nfactor x x\nnever x x\ntime x 0"),
            ["done", "0", "1", "0", "0", "-", "0", "yes", "refused OtherWorks"],
        )

    def test_great_numbers(self):
        great = "1" + "0" * 29
        self.same(
            answers("plan x a b\ntime x " + great + " 0\nby x 1 " + great + " " + great + "\nby x " + "9" * 40 + " 1 2"),
            ["done", great, "2" + "0" * 29, "2"],
        )

    def test_ten_works_and_twelve_plans(self):
        plans = some_plans(12, sizes=(10,))
        lines = ["plan p" + letter + " " + plan.text for letter, plan in zip(LETTERS + "kl", plans)]
        lines += ["factor pa p" + letter for letter in LETTERS] + ["guards p" + letter for letter in LETTERS]
        lines += ["text p" + letter for letter in LETTERS] + ["hands p" + letter for letter in LETTERS]
        told = answers("\n".join(lines))
        self.same(told[32:42], [plan.text for plan in plans[:10]])
        self.same(told[22:32], [str(len(fewest_guards(plan))) for plan in plans[:10]])
        self.same(told[42:], [str(hands_needed(plan)) for plan in plans[:10]])

    def test_beside_the_board(self):
        for plan, other in zip(every_plan(3)[:12], every_plan(3)[::2]):
            board = Board()
            board.put("x", plan)
            board.put("y", other)
            lines = ["plan x " + plan.text, "plan y " + other.text]
            expected = ["done", "done"]
            for name, own in (("x", plan), ("y", other)):
                lines += ["time " + name + " 3 1 2", "by " + name + " 2 3 1 2", "row " + name + " a c", "always " + name + " b a"]
                expected += [
                    str(board.time_of(name, (3, 1, 2))), str(time_by(own, (3, 1, 2), 2, ("a", "b", "c"))),
                    "yes" if in_row(own, "a", "c") else "no", "yes" if always_with(own, "b", "a") else "no",
                ]
            lines += ["factor x y", "never x y"]
            expected += [str(board.factor("x", "y")), "yes" if board.never_longer("x", "y") else "no"]
            self.same(answers("\n".join(lines)), expected)


class Refused(Case):
    def check(self, text):
        bad = first_bad_line(text)
        if bad is None:
            told = answers(text)
            self.same(len(told), len(text.split("\n")) if text else 0)
        else:
            self.denied(BadLine, {"number": bad}, answers, text)

    def test_wrong_lines(self):
        for line in (
            "", " ", "-", "name", "names ", " names", "names x", "Names", "nam es", "undo 1", "undo undo", "plan", "plan x", "plan x ",
            "plan  x a", "plan X a", "plan x A", "plan x b a", "plan x a a", "plan x a; a b", "plan x a b;a b", "plan x a b; b b",
            "plan x a b; a b; a b", "plan x a b; b a; a b", "plan x a b c; a b; b c; c a", "plan x a b ", "plan x  a b", "plan x a b; ",
            "plan x -; a b", "plan x - ", "plan abcdefghi a", "plan x abcdefghi", "plan - a", "plan 1 a", "drop", "drop x y", "drop x ",
            "drop X", "rename x", "rename x y z", "rename x Y", "wait x a", "wait x a b c", "wait x a 1", "wait x a  b", "free x a",
            "free x", "free x a b c", "text", "text x y", "time", "time x", "time x ", "time x 01", "time x 1 ", "time x 1  2", "time x -1",
            "time x +1", "time x 1.0", "time x - 1", "time x - -", "time x a", "time X 1", "by", "by x", "by x 1", "by x 1 ", "by x 0 1",
            "by x 01 1", "by x -1 1", "by x - 1", "by x -", "by x  1 1", "by x 1 01", "by x 1 1 ", "by x one 1", "by x 1 - 1", "row x a",
            "row x a b c", "row x a B", "always x a", "always x a b c", "guards", "guards x y", "hands", "hands x 1", "factor x",
            "factor x y z", "never x", "never x y z", "never x -", "names\t", "names\r", "time x 1,2", "TIME x 1", "plan x a_b", "by x 1 A",
            "{", "put x a", "undo\x0b", "time x \u0661", "by x \u0661 1", "drop \u00e9", "plan x \u00e9",
        ):
            self.assertFalse(is_line(line), line)
            for number, text in enumerate((line, "names\n" + line, "undo\nplan x a\n" + line)):
                if text:
                    self.denied(BadLine, {"number": number}, answers, text)
            self.denied(BadLine, {"number": 0}, answers, line + "\nnames" + "\nwrong")

    def test_a_line_feed_at_the_end(self):
        for text, number in (("\n", 0), ("names\n", 1), ("\nnames", 0), ("names\n\nnames", 1), ("names\nundo\n", 2)):
            self.denied(BadLine, {"number": number}, answers, text)

    def test_right_lines(self):
        for line in (
            "names", "undo", "plan x -", "plan x a", "plan plan plan", "plan x a b; a b", "plan x a b; b a", "drop undo", "time x -",
            "time x 0", "time x 10 0 3", "by x 1 -", "by x 10 0 0", "plan abcdefgh abcdefgh", "rename x x", "wait x a a", "row x y z",
            "guards x", "hands hands", "factor x x", "never a b", "text text", "always x a b", "free x a b", "time x " + "9" * 40,
        ):
            self.assertTrue(is_line(line), line)
            self.same(len(answers(line)), 1)

    def test_one_spoiled_sign(self):
        text = "plan x a b c; a b; b c\ntime x 3 0 10\nby x 2 1 10 0\nwait x a c\nnames\nnever x y\ntext x"
        for place in range(len(text) + 1):
            for sign in ("", " ", "\n", ";", "-", "0", "5", "a", "x", "Q", "; "):
                self.check(text[:place] + sign + text[place:])
                self.check(text[:place] + sign + text[place + 1:])

    def test_all_lines_are_read_first(self):
        # A line that is refused stands ahead of one that is not so written.
        self.denied(BadLine, {"number": 2}, answers, "drop x\nplan x a\nwrong")
        self.assertTrue(issubclass(BadLine, PlanError))


if __name__ == "__main__":
    unittest.main()
