"""Point [20]: a board of plans."""

import itertools
import random
import unittest

from lateplans import alike, factor, times
from lateplans.board import Board
from lateplans.errors import BadPair, Known, NoPlan, NothingDone, NoWork, OtherWorks
from lateplans.plans import Plan, turned, with_pair, without_pair
from lateplans.ranks import Table
from tests.asserts import Case
from tests.oracle import LETTERS, THINGS, every_plan, goes_round, lots, mates, rows, some_durations, some_plans, time_by_rows

PLANS = every_plan(0) + every_plan(2) + every_plan(3)[::4] + some_plans(1, sizes=(5, 6))
NAMES = ["line", "loose", "a", "b", "abcdefgh", "z"]


class Slow:
    """The same deeds done plainly, on pairs of works and pairs."""

    def __init__(self):
        self.plans, self.past = {}, []

    def plan(self, name):
        works, pairs = self.plans[name]
        return Plan(works, tuple(sorted(pairs)))

    def refusal(self, deed, words):
        """The error that is stated, with its values; None if there is none."""
        if deed == "undo":
            return None if self.past else (NothingDone, {})
        if deed == "put":
            return (Known, {"name": words[0]}) if words[0] in self.plans else None
        if words[0] not in self.plans:
            return NoPlan, {"name": words[0]}
        if deed == "rename" and words[1] in self.plans:
            return Known, {"name": words[1]}
        if deed in ("wait", "free"):
            works, pairs = self.plans[words[0]]
            for name in words[1:]:
                if name not in works:
                    return NoWork, {"name": name}
            if deed == "wait" and tuple(words[1:]) not in pairs and goes_round(pairs | {tuple(words[1:])}):
                return BadPair, {"place": len(pairs)}
        return None

    def do(self, deed, words):
        if deed == "undo":
            self.plans = self.past.pop()
            return
        self.past.append(dict(self.plans))
        if deed == "put":
            self.plans[words[0]] = (words[1].works, set(words[1].pairs))
        elif deed == "rename":
            self.plans[words[1]] = self.plans.pop(words[0])
        elif deed == "drop":
            del self.plans[words[0]]
        else:
            works, pairs = self.plans[words[0]]
            pair = {tuple(words[1:])}
            self.plans[words[0]] = (works, pairs | pair if deed == "wait" else pairs - pair)


def state(board):
    return (board.names, len(board), board.deeds, [board[name].text for name in board.names])


def random_deed(chance):
    deed = chance.choice(("put", "put", "put", "drop", "rename", "wait", "wait", "wait", "free", "undo"))
    name = chance.choice(NAMES)
    if deed == "put":
        return deed, [name, chance.choice(PLANS)]
    if deed == "rename":
        return deed, [name, chance.choice(NAMES)]
    if deed in ("wait", "free"):
        return deed, [name, chance.choice("abcd"), chance.choice("abcd")]
    return deed, [] if deed == "undo" else [name]


class Deeds(Case):
    def check(self, board, slow):
        names = tuple(sorted(slow.plans))
        self.same((board.names, len(board), board.deeds), (names, len(names), len(slow.past)))
        for name in NAMES:
            self.assertIs(name in board, name in slow.plans)
            if name in slow.plans:
                self.assertTrue(board[name] == slow.plan(name))
            else:
                self.refused(NoPlan, {"name": name}, lambda own: board[own], name)

    def test_many_deeds(self):
        chance, refused = random.Random(20), set()
        for _ in range(30):
            board, slow = Board(), Slow()
            for _ in range(60):
                deed, words = random_deed(chance)
                wrong = slow.refusal(deed, words)
                if wrong is None:
                    slow.do(deed, words)
                    self.same(getattr(board, deed)(*words), None)
                else:
                    before = state(board)
                    refused.add((deed, wrong[0]))
                    self.denied(*wrong, getattr(board, deed), *words)
                    self.same(state(board), before)
                self.check(board, slow)
            while slow.past:
                board.undo()
                slow.do("undo", [])
                self.check(board, slow)
            self.denied(NothingDone, {}, board.undo)
        self.assertEqual(refused, {
            ("put", Known), ("drop", NoPlan), ("rename", NoPlan), ("rename", Known), ("wait", NoPlan), ("wait", NoWork),
            ("wait", BadPair), ("free", NoPlan), ("free", NoWork), ("undo", NothingDone),
        })

    def test_at_first(self):
        board = Board()
        self.same((board.names, board.deeds, len(board), "a" in board, board.never_beaten()), ((), 0, 0, False, ()))
        self.denied(NothingDone, {}, board.undo)
        self.assertTrue(board == Board() and board.twin() == board)

    def test_by_name(self):
        board = Board()
        for told in (
            board.put(plan=Plan.of("a b c; a b"), name="x"), board.rename(new="y", name="x"),
            board.wait(other="c", one="b", name="y"), board.free(other="b", one="a", name="y"),
        ):
            self.same(told, None)
        self.same(state(board), (("y",), 1, 4, ["a b c; b c"]))
        self.same(board.time_of(durations=(1, 2, 3), name="y"), 5)
        board.put("z", Plan.of("a b c"))
        self.same((board.never_longer(to="y", name="z"), board.factor(to="z", name="y")), (True, 2))
        self.same(board.drop(name="z"), None)

    def test_deeds_that_change_nothing(self):
        board = Board()
        board.put("x", Plan.of("a b c; a b"))
        board.wait("x", "a", "b")
        board.free("x", "b", "a")
        board.free("x", "c", "c")
        self.same(state(board), (("x",), 1, 4, ["a b c; a b"]))
        for many in (3, 2, 1):
            board.undo()
            self.same(state(board), (("x",), 1, many, ["a b c; a b"]))
        board.undo()
        self.same(state(board), ((), 0, 0, []))

    def test_twelve_plans_and_sixty_deeds(self):
        board, plans = Board(), some_plans(12, sizes=(10,))
        for name, plan in zip(LETTERS + "kl", plans):
            board.put(name, plan)
        for number in range(48):
            board.wait(LETTERS[number % 10], *board[LETTERS[number % 10]].pairs[0])
        self.same((len(board), board.deeds), (12, 60))
        for _ in range(59):
            board.undo()
        self.same(state(board), (("a",), 1, 1, [plans[0].text]))


class Refused(Case):
    def board(self):
        board = Board()
        board.put("x", Plan.of("a b c; a b"))
        board.put("y", Plan.of("a b d"))
        board.put("none", Plan(()))
        return board

    def test_the_first_error_decides(self):
        board = self.board()
        before = state(board)
        for kind, values, call, words in (
            (Known, {"name": "x"}, board.put, ("x", Plan(()))), (NoPlan, {"name": "z"}, board.drop, ("z",)),
            (NoPlan, {"name": "z"}, board.rename, ("z", "x")), (NoPlan, {"name": "z"}, board.rename, ("z", "z")),
            (Known, {"name": "x"}, board.rename, ("x", "x")), (Known, {"name": "y"}, board.rename, ("x", "y")),
            (NoPlan, {"name": "z"}, board.wait, ("z", "q", "a")), (NoWork, {"name": "q"}, board.wait, ("x", "q", "r")),
            (NoWork, {"name": "r"}, board.wait, ("x", "a", "r")), (BadPair, {"place": 1}, board.wait, ("x", "b", "a")),
            (BadPair, {"place": 1}, board.wait, ("x", "c", "c")), (BadPair, {"place": 0}, board.wait, ("y", "d", "d")),
            (NoPlan, {"name": "z"}, board.free, ("z", "a", "b")), (NoWork, {"name": "q"}, board.free, ("x", "q", "r")),
            (NoWork, {"name": "r"}, board.free, ("x", "b", "r")), (NoWork, {"name": "a"}, board.free, ("none", "a", "b")),
            (NoPlan, {"name": "z"}, board.time_of, ("z", ())), (OtherWorks, {}, board.time_of, ("x", (1, 2))),
            (OtherWorks, {}, board.time_of, ("x", ())), (OtherWorks, {}, board.time_of, ("none", (1,))),
            (OtherWorks, {}, board.time_of, ("y", (1, 2, 3, 4))),
        ):
            self.denied(kind, values, call, *words)
            self.same(state(board), before)

    def test_two_plans(self):
        board = self.board()
        for call in (board.never_longer, board.factor):
            for name, to, wrong in (("z", "q", "z"), ("q", "x", "q"), ("x", "z", "z"), ("z", "none", "z"), ("q", "q", "q")):
                self.denied(NoPlan, {"name": wrong}, call, name, to)
            for name, to in itertools.permutations(("x", "y", "none"), 2):
                self.denied(OtherWorks, {}, call, name, to)

    def test_iteration(self):
        for board in (Board(), self.board()):
            self.assertRaises(TypeError, iter, board)
            self.assertRaises(TypeError, list, board)
            with self.assertRaises(TypeError):
                for _ in board:
                    pass

    def test_properties_have_no_setters(self):
        for name in ("names", "deeds"):
            with self.assertRaises(AttributeError):
                setattr(self.board(), name, ())

    def test_a_refused_deed_is_none(self):
        board = self.board()
        board.drop("y")
        self.refused(Known, {"name": "x"}, board.put, "x", Plan(()))
        self.refused(BadPair, {"place": 1}, board.wait, "x", "b", "a")
        board.undo()
        self.same(state(board), state(self.board()))


class Asked(Case):
    def test_questions(self):
        chance = random.Random(21)
        for _ in range(12):
            board, plans = Board(), dict(zip(LETTERS, chance.sample(PLANS, 5) + some_plans(2, sizes=(5, 7))))
            for name, plan in plans.items():
                board.put(name, plan)
            for name, plan in plans.items():
                for durations in some_durations(plan, 2):
                    self.same(self.asked(board.time_of, name, durations), time_by_rows(plan, durations))
            alike_ones = [pair for pair in itertools.product(plans, repeat=2) if plans[pair[0]].works == plans[pair[1]].works]
            for name, to in alike_ones:
                both = set(rows(plans[name])) & set(lots(plans[to]))
                self.same(self.asked(board.factor, name, to), max(len(some) for some in both))
                self.same(self.asked(board.never_longer, name, to), mates(plans[name]) <= mates(plans[to]))
            beaten = {name for name, to in alike_ones if not mates(plans[name]) <= mates(plans[to])}
            self.same(self.asked(board.never_beaten), tuple(sorted(set(plans) - beaten)))
            self.same(board.deeds, len(plans))

    def test_beside_the_functions(self):
        board, plans = Board(), some_plans(4, sizes=(6,))
        for name, plan in zip("qrst", plans):
            board.put(name, plan)
        for one, other in itertools.product("qrst", repeat=2):
            self.same(board.factor(one, other), factor.factor(board[one], board[other]))
            self.same(board.never_longer(one, other), alike.never_longer(board[one], board[other]))
        for durations in some_durations(plans[0], 5):
            self.same(board.time_of("q", durations), times.time_of(plans[0], durations))

    def test_beside_a_table(self):
        for seed in range(8):
            plans = some_plans(5, sizes=(3,), seed=seed)
            board, table = Board(), Table(tuple(zip("qrstu", plans)))
            for name, plan in zip("qrstu", plans):
                board.put(name, plan)
            best = tuple(name for name in table.names if all(table.is_never_longer(name, to) for to in table.names))
            self.same(board.never_beaten(), best)

    def test_never_beaten(self):
        board = Board()
        for name, plan, told in (
            ("a", Plan.of("x y z; x y"), ("a",)), ("b", Plan.of("x y z; y x"), ("a", "b")),
            ("c", Plan.of("x y z; y z"), ()), ("d", Plan.of("x y"), ("d",)), ("e", Plan(()), ("d", "e")),
            ("f", Plan(()), ("d", "e", "f")), ("g", Plan.of("x y z"), ("d", "e", "f", "g")), ("h", Plan.of("x y; x y"), ("d", "e", "f", "g")),
        ):
            board.put(name, plan)
            self.same(board.never_beaten(), told)
        board.drop("g")
        self.same(board.never_beaten(), ("d", "e", "f"))

    def test_a_changed_plan_tells_other_answers(self):
        board = Board()
        board.put("x", Plan.of("a b"))
        board.put("y", Plan.of("a b; a b"))
        self.same((board.factor("y", "x"), board.time_of("x", (1, 2)), board.never_longer("y", "x")), (2, 2, False))
        board.wait("x", "b", "a")
        self.same((board.factor("y", "x"), board.time_of("x", (1, 2)), board.never_longer("y", "x")), (1, 3, True))
        board.undo()
        self.same((board.factor("y", "x"), board.time_of("x", (1, 2)), board.never_longer("y", "x")), (2, 2, False))


class Alone(Case):
    def test_equal(self):
        one, other = Board(), Board()
        one.put("x", Plan.of("a b"))
        self.assertTrue(one != other and not one == other)
        other.put("y", Plan.of("a b"))
        self.assertFalse(one == other)
        other.rename("y", "x")
        self.assertTrue(one == other and not one != other and one.deeds != other.deeds)
        one.wait("x", "a", "b")
        self.assertTrue(one != other)
        one.free("x", "a", "b")
        one.put("w", Plan(()))
        other.put("w", Plan(()))
        self.assertTrue(one == other)
        for thing in THINGS + [Plan.of("a b"), {"x": Plan.of("a b")}, Board, Table((("x", Plan.of("a b")),))]:
            self.assertIs(one == thing, False)
            self.assertIs(thing != one, True)

    def test_equal_whatever_the_order_of_the_deeds(self):
        one, other = Board(), Board()
        one.put("x", Plan.of("a b"))
        one.put("y", Plan.of("a"))
        other.put("y", Plan.of("a"))
        other.put("x", Plan.of("a b"))
        self.assertTrue(one == other)

    def test_twin(self):
        board = Board()
        board.put("x", Plan.of("a b c; a b"))
        board.put("y", Plan.of("a"))
        board.drop("y")
        before = state(board)
        mate = board.twin()
        self.assertTrue(mate == board and type(mate) is Board and mate is not board)
        self.same(state(mate), (("x",), 1, 0, ["a b c; a b"]))
        self.denied(NothingDone, {}, mate.undo)
        mate.wait("x", "b", "c")
        mate.put("q", Plan(()))
        self.same(state(board), before)
        board.undo()
        board.rename("x", "w")
        self.same(state(mate), (("q", "x"), 2, 2, ["-", "a b c; a b; b c"]))
        mate.undo()
        mate.undo()
        self.denied(NothingDone, {}, mate.undo)
        self.same(state(mate), (("x",), 1, 0, ["a b c; a b"]))

    def test_plans_do_not_change(self):
        plan = Plan.of("a b c; a b")
        board = Board()
        board.put("x", plan)
        before = board["x"]
        board.wait("x", "b", "c")
        self.same((plan.text, before.text, board["x"].text), ("a b c; a b", "a b c; a b", "a b c; a b; b c"))
        self.assertTrue(board["x"] == with_pair(plan, "b", "c"))
        board.free("x", "a", "b")
        self.assertTrue(board["x"] == without_pair(with_pair(plan, "b", "c"), "a", "b"))
        board.put("y", turned(plan))
        self.same(board.factor("y", "x"), 2)


if __name__ == "__main__":
    unittest.main()
