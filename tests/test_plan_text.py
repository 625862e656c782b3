"""Point [4]: the text of a Plan, and the Plan of a text."""

import itertools
import random
import re
import unittest

from lateplans.errors import BadText
from lateplans.plans import Plan
from tests.asserts import Case
from tests.oracle import every_plan, goes_round, some_plans

NAME = re.compile("[a-z]{1,8}")


def wrong_piece(text):
    """The number of the first wrong piece; None if there is none. Slow and plain."""
    pieces = text.split("; ")
    words = [] if pieces[0] == "-" else pieces[0].split(" ")
    if not all(NAME.fullmatch(word) for word in words) or words != sorted(set(words)):
        return 0
    pairs = []
    for number, piece in enumerate(pieces):
        if number > 0:
            pair = tuple(piece.split(" "))
            if len(pair) != 2 or not set(pair) <= set(words):
                return number
            if pairs and not pair > pairs[-1]:
                return number
            pairs.append(pair)
            if goes_round(pairs):
                return number
    return None


class Texts(Case):
    def test_there_and_back(self):
        for plan in every_plan(3) + every_plan(4) + some_plans(10):
            again = Plan.of(plan.text)
            self.assertEqual(again, plan)
            self.same((again.works, again.pairs, again.text), (plan.works, plan.pairs, plan.text))

    def test_plain_ones(self):
        self.same(Plan.of("-").works, ())
        self.same(Plan.of(text="a").text, "a")
        self.same(Plan.of("abcdefgh b; b abcdefgh").pairs, (("b", "abcdefgh"),))
        self.assertEqual(Plan(()).of("a b; a b"), Plan(("a", "b"), (("a", "b"),)))

    def test_wrong_works(self):
        for text in (
            "", " ", "  ", "--", "- ", " -", "-a", "a -", "- a", ";", "; ", " ; ", "a;", "a;b", "a ;", "a  b", " a",
            "a ", "a\n", "\na", "a\tb", "a\nb", "a\rb", "a\x00", "a\u00a0b", "\u00e9", "\u0430", "\uff41", "\u00aa",
            "A", "aB", "a1", "1", "a_b", "a-b", "a.b", "abcdefghi", "a abcdefghi", "b a", "a a", "a c b", "a b a",
            "\ud800", "a \ud800", "\U0001f600", "a\u0301", "ab a", "a,b", "(a)", "'a'", "a " * 3000, "a" * 10 ** 6,
        ):
            self.refused(BadText, {"piece": 0}, Plan.of, text)
            self.refused(BadText, {"piece": 0}, Plan.of, text=text + "; x x")

    def test_wrong_pairs(self):
        for text, piece in (
            ("-; ", 1), ("-; -", 1), ("-; a b", 1), ("a; a", 1), ("a; a a", 1), ("a b; ", 1), ("a b; -", 1),
            ("a b; a b; ", 2), ("a b; a b ", 1), ("a b;  a b", 1), ("a b; a  b", 1), ("a b; a b;", 1),
            ("a b; a b;b a", 1), ("a b; a b; a b", 2), ("a b c; b c; a b", 2), ("a b; a b; b a", 2),
            ("a b c; a b; b c; c a", 3), ("a b c; a b; a z", 2), ("a b c; a b c", 1), ("a b c; a", 1),
            ("a b; A b", 1), ("a b; a\nb", 1), ("a b; a b\n", 1), ("a b; a\tb", 1), ("a b; a \ud800", 1),
            ("a b; ; ", 1), ("a b; a b; ; a z", 2), ("a b; b", 1), ("a b; \u0430 b", 1), ("a b; a b;; b a", 1),
            ("a b c; a c; a b; z z", 2), ("a b c; b a; a z; a b", 2), ("a b c; b b; a", 1), ("a b; 1 2", 1),
            ("a b c; b c; c b; b c", 2), ("a b c; a b; b a; a", 2), ("a b c; a b; a; b a", 2),
        ):
            self.assertEqual(wrong_piece(text), piece, text)
            self.refused(BadText, {"piece": piece}, Plan.of, text)

    def test_every_short_text(self):
        signs = ["a", "b", " ", "; ", "-"]
        for many in range(6):
            for chosen in itertools.product(signs, repeat=many):
                self.compare("".join(chosen))
        for chosen in itertools.product(["a", "b", "z", " ", ""], repeat=4):
            self.compare("a b; " + "".join(chosen))
            self.compare("a b c; b c; " + "".join(chosen))

    def test_texts_changed_by_chance(self):
        chance = random.Random(5)
        signs = ["a", "b", "e", "z", " ", "; ", ";", "-", "A", "\n", "\u00e9", "1"]
        for plan in some_plans(60, sizes=(3, 4, 5)):
            text = plan.text
            for _ in range(4):
                at = chance.randrange(len(text) + 1)
                text = text[:at] + chance.choice(signs + [""]) + text[at + chance.randint(0, 2):]
                self.compare(text)

    def test_pieces_put_together_by_chance(self):
        chance = random.Random(6)
        for _ in range(1500):
            works = sorted(chance.sample("abcdef", chance.randint(1, 5)))
            pairs = sorted({(chance.choice(works), chance.choice(works)) for _ in range(chance.randint(0, 6))})
            pieces = [" ".join(pair) for pair in pairs if pair[0] != pair[1] or chance.random() < 0.2]
            if pieces and chance.random() < 0.2:
                pieces.insert(chance.randrange(len(pieces)), chance.choice(("a", "", "a b c", "z a", "b a")))
            self.compare("; ".join([" ".join(works)] + pieces))

    def compare(self, text):
        piece = wrong_piece(text)
        if piece is None:
            self.same(Plan.of(text).text, text)
        else:
            self.refused(BadText, {"piece": piece}, Plan.of, text)


class ManyWorks(Case):
    def test_of_however_many_works(self):
        names = sorted({a + b + c for a in "abcdefghij" for b in "abcdefghij" for c in "abcdefghij"})
        chain = [one + " " + other for one, other in zip(names, names[1:])]
        text = "; ".join([" ".join(names)] + chain)
        self.same(Plan.of(text).text, text)
        self.same(len(Plan.of(" ".join(names))), 1000)
        self.refused(BadText, {"piece": 1000}, Plan.of, text + f"; {names[-1]} {names[0]}")
        back = [f"{other} {one}" for one, other in zip(names, names[1:])]
        self.same(len(Plan.of("; ".join([" ".join(names)] + back)).pairs), 999)
        self.refused(BadText, {"piece": 1}, Plan.of, "; ".join([" ".join(names), f"{names[0]} {names[-1]}x"] + back))

    def test_all_pairs_of_many_works(self):
        names = [a + b for a in "abcdefghij" for b in "abcdef"]
        pairs = [f"{other} {one}" for at, other in enumerate(names) for one in names[:at]]
        text = "; ".join([" ".join(names)] + pairs)
        self.same(len(Plan.of(text).pairs), 60 * 59 // 2)
        self.refused(BadText, {"piece": 1}, Plan.of, text.replace("; ab aa", "; ab aa x", 1))
        closed = "; ".join([" ".join(names), f"{names[0]} {names[-1]}"] + pairs)
        self.refused(BadText, {"piece": 1 + len(pairs) - 58}, Plan.of, closed)


if __name__ == "__main__":
    unittest.main()
