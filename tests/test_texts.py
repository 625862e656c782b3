"""Point [19]: texts."""

import itertools
import random
import re
import unittest

from lateplans.errors import BadText
from lateplans.plans import Plan
from lateplans.texts import (
    durations_from, durations_text, lines_of, pairs_from, pairs_text, works_from, works_text,
)
from lateplans.times import begins, ends
from tests.asserts import Case
from tests.oracle import every_plan, some_durations, some_plans, spans

NAME = "[a-z]{1,8}"
NUMBER = "(0|[1-9][0-9]*)"


def slow_works(text):
    """The works, or the number of the first wrong piece."""
    return slow(text, " ", lambda piece: re.fullmatch(NAME, piece) and piece, True)


def slow_pairs(text):
    def pair(piece):
        found = re.fullmatch("(" + NAME + ") (" + NAME + ")", piece)
        return found.groups() if found and found.group(1) != found.group(2) else None

    return slow(text, "; ", pair, True)


def slow_durations(text):
    return slow(text, " ", lambda piece: (int(piece),) if re.fullmatch(NUMBER, piece, re.ASCII) else None, False)


def slow(text, between, read, ascending):
    found = []
    for number, piece in enumerate(text.split(between) if text != "-" else []):
        told = read(piece)
        if not told or (ascending and found and not found[-1] < told):
            return number
        found.append(told)
    return tuple(found) if ascending else tuple(item for item, in found)


READERS = ((works_from, slow_works), (pairs_from, slow_pairs), (durations_from, slow_durations))
STRANGE = (
    "", "-", " ", "  ", "- ", " -", "--", "- -", "-; -", ";", "; ", "; ; ", "\n", "-\n", "a\n", "1\n", "a b\n", "\t", "a\tb",
    "a ", " a", "a  b", "a b; ", "a b ; c d", "a b;c d", "a b;; c d", "a b;  c d", " a b", "a b c", "a b; c", "a b; c d e",
    "a b; -", "-; a b", "a -", "- a", "0 -", "- 0", "A", "aB", "a1", "a_", "abcdefgh", "abcdefghi", "a abcdefghi", "b a", "a a",
    "a b; a b", "b a; a b", "a b; b a", "a c; a b", "a a", "a b; b b", "ab a; a b", "a z; b a", "0", "00", "01", "0 01", "+1", "-1",
    "1 -0", "1.0", "1e3", "1_0", "0x1", "\u0663", "1 \u0662", "\u00b2", "\u2460", "\uff11", "\u00e9", "a \u00e9", "\u00aa", "\ufb01",
    "a\u00a0b", "1\u00a02", "\x00", "a\x00", "%", "%s", "10 20 0 3", "3 2 1", "9" * 40, "1" + "0" * 39, "0" + "9" * 39, "a\rb",
    "1\x0b2", "a; b", "a b, c d", "a b; c d; e f", "a b; c d; c c", "a b; C d", "a b; c d\n", "\u2167", "1 2 3 x 05", "a b c D e",
)


class Reading(Case):
    def check(self, text):
        for call, slow_call in READERS:
            told = slow_call(text)
            if isinstance(told, int):
                self.denied(BadText, {"piece": told}, call, text)
            else:
                self.same(self.asked(call, text), told)

    def test_strange_texts(self):
        for text in STRANGE:
            self.check(text)

    def test_any_text(self):
        chance = random.Random(19)
        for signs in ("ab ", "ab; ", "01 ", "a1- ;", "abAZ09 -;\n\u0663"):
            for _ in range(1500):
                self.check("".join(chance.choice(signs) for _ in range(chance.randint(1, 12))))

    def test_all_short_texts(self):
        for size in range(5):
            for signs in itertools.product("ab ;-0", repeat=size):
                self.check("".join(signs))

    def test_one_spoiled_sign(self):
        for text in ("lamp paint roof", "floor lamp; paint floor; paint lamp", "3 0 10 205"):
            self.check(text)
            for place in range(len(text) + 1):
                for sign in ("", " ", ";", "-", "a", "Z", "0", "7", "\n", "\u0661", "{", "`", "/", ":"):
                    self.check(text[:place] + sign + text[place + 1:])
                    self.check(text[:place] + sign + text[place:])

    def test_the_first_wrong_piece(self):
        for call, text, piece in (
            (works_from, "a c b B", 2), (works_from, "a c B b", 2), (works_from, "b b", 1), (works_from, "", 0),
            (works_from, "a b ", 2), (pairs_from, "a b; c c; b a", 1), (pairs_from, "a b; a a", 1), (pairs_from, "", 0),
            (pairs_from, "b a; b a", 1), (pairs_from, "a b; b a; c d e", 2), (durations_from, "1 2 03", 2),
            (durations_from, "0 00 x", 1), (durations_from, "", 0), (durations_from, "5 ", 1), (durations_from, " 5", 0),
            (works_from, "ab a", 1), (works_from, "a ab b aa", 3),
        ):
            self.denied(BadText, {"piece": piece}, call, text)

    def test_pairs_that_go_round(self):
        self.same(pairs_from("a b; b a"), (("a", "b"), ("b", "a")))
        self.same(pairs_from("a b; b c; c a"), (("a", "b"), ("b", "c"), ("c", "a")))

    def test_great_numbers_and_many_pieces(self):
        self.same(durations_from("9" * 40), (10 ** 40 - 1,))
        self.same(durations_from(" ".join(["0"] * 3000)), (0,) * 3000)
        self.denied(BadText, {"piece": 2999}, durations_from, " ".join(["0"] * 2999 + ["00"]))
        names = sorted("".join(signs) for signs in itertools.product("abcdefghijkl", repeat=3))
        self.same(works_from(" ".join(names)), tuple(names))
        pairs = list(itertools.permutations(names[:40], 2))
        self.same(pairs_from("; ".join(" ".join(pair) for pair in pairs)), tuple(pairs))


class Writing(Case):
    def test_texts(self):
        for call, value, text in (
            (works_text, (), "-"), (works_text, ("a",), "a"), (works_text, ("lamp", "paint"), "lamp paint"),
            (pairs_text, (), "-"), (pairs_text, (("a", "b"),), "a b"),
            (pairs_text, (("floor", "lamp"), ("paint", "floor")), "floor lamp; paint floor"),
            (pairs_text, (("a", "b"), ("b", "a")), "a b; b a"), (durations_text, (), "-"), (durations_text, (0,), "0"),
            (durations_text, (3, 0, 10), "3 0 10"), (durations_text, (10 ** 39, 3, 3), "1" + "0" * 39 + " 3 3"),
        ):
            self.same(self.asked(call, value), text)

    def test_there_and_back(self):
        for plan in every_plan(0) + every_plan(2) + every_plan(3) + some_plans(3):
            self.same(works_from(works_text(plan.works)), plan.works)
            self.same(pairs_from(pairs_text(plan.pairs)), plan.pairs)
            for durations in some_durations(plan, 2):
                self.same(durations_from(durations_text(durations)), durations)

    def test_beside_the_text_of_a_plan(self):
        for plan in every_plan(0) + every_plan(2) + every_plan(3) + some_plans(3):
            text = works_text(plan.works) + ("; " + pairs_text(plan.pairs) if plan.pairs else "")
            self.same(plan.text, text)

    def test_every_text_that_is_read_is_written_so(self):
        for text in STRANGE:
            for call, write in ((works_from, works_text), (pairs_from, pairs_text), (durations_from, durations_text)):
                try:
                    told = call(text)
                except BadText:
                    continue
                self.same(write(told), text)


class Lines(Case):
    def test_lines(self):
        for plan in every_plan(0) + every_plan(1) + every_plan(3)[::3] + some_plans(3):
            for durations in some_durations(plan, 3):
                times = spans(plan, durations)
                told = [name + ": " + str(times[name][0]) + " to " + str(times[name][1]) for name in plan.works]
                self.same(self.asked(lines_of, plan, durations), told)

    def test_beside_begins_and_ends(self):
        house = Plan.of("dig lamp paint wall; dig wall; lamp paint; wall paint")
        days = (2, 10 ** 29, 1, 3)
        for line, start, stop in zip(lines_of(house, days), begins(house, days), ends(house, days)):
            self.assertTrue(line.endswith(": " + durations_text((start,)) + " to " + durations_text((stop,))))
        self.same(lines_of(house, days)[2], "paint: 1" + "0" * 29 + " to 1" + "0" * 28 + "1")


if __name__ == "__main__":
    unittest.main()
