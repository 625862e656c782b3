"""Point [13]: a hidden Plan."""

import itertools
import unittest

from lateplans.errors import BadAnswer, NothingDone, NoWork, OtherWorks
from lateplans.hidden import Survey, surveyed, surveyed_rows
from lateplans.plans import Plan, all_waits, in_row, row_pairs, turned
from lateplans.times import begins, time_of
from tests.asserts import Case
from tests.oracle import LETTERS, THINGS, every_plan, nested, some_durations, some_plans, time_by_rows

GREAT = 10 ** 29


class Told:
    """What a Survey says, by all Plans of its works."""

    def __init__(self, many, times=()):
        self.plans = [
            plan for plan in every_plan(many)
            if all(time_by_rows(plan, durations) == time for durations, time in times)
        ]

    def how_many(self):
        return len({row_pairs(plan) for plan in self.plans})

    def in_row(self, one, other):
        found = {in_row(plan, one, other) for plan in self.plans}
        return found.pop() if len(found) == 1 else None

    def span(self, durations):
        times = [time_by_rows(plan, durations) for plan in self.plans]
        return (min(times), max(times))


class Surveys(Case):
    def check(self, survey, times):
        """The Survey says what all Plans that fit say together."""
        works, told = survey.works, Told(len(survey.works), times)
        self.same((survey.told, len(survey)), (tuple(times), len(times)))
        self.same(self.asked(survey.how_many), told.how_many())
        for one, other in itertools.permutations(works, 2):
            self.same(self.asked(survey.in_row, one, other), told.in_row(one, other))
        for durations in some_durations(Plan(works), 3):
            self.same(self.asked(survey.span, durations), told.span(durations))
        plan = self.asked(survey.a_plan)
        self.assertIn(row_pairs(plan), [row_pairs(own) for own in told.plans])
        self.same((plan.works, survey.fits(plan)), (works, True))

    def test_hidden_plans(self):
        for many in (0, 1, 2, 3):
            for plan in every_plan(many)[::2]:
                survey, times = Survey(plan.works), []
                self.check(survey, times)
                for durations in some_durations(plan, 3)[1:]:
                    times.append((durations, time_by_rows(plan, durations)))
                    self.same(survey.tell(*times[-1]), None)
                    self.check(survey, times)

    def test_four_works(self):
        for plan in every_plan(4)[::60]:
            survey, times = Survey(plan.works), []
            for durations in ((1, 1, 0, 0), (0, 1, 2, 4), (1, GREAT, 0, GREAT), (1, 1, 1, 1)):
                times.append((durations, time_by_rows(plan, durations)))
                survey.tell(*times[-1])
            self.check(survey, times)

    def test_any_pairs_can_be_in_a_row(self):
        for many, graphs in ((0, 1), (1, 1), (2, 2), (3, 8), (4, 64)):
            self.same(Survey(tuple(LETTERS[:many])).how_many(), graphs)
            self.same(len({row_pairs(plan) for plan in every_plan(many)}), graphs)

    def test_each_graph_has_a_plan(self):
        works, pairs = tuple("abcd"), list(itertools.combinations("abcd", 2))
        for bits in itertools.product((1, 2), repeat=6):
            survey = Survey(works)
            for (one, other), time in zip(pairs, bits):
                survey.tell(tuple(int(name in (one, other)) for name in works), time)
            told = tuple(pair for pair, time in zip(pairs, bits) if time == 2)
            self.same((survey.how_many(), row_pairs(survey.a_plan())), (1, told))

    def test_fits(self):
        survey = Survey(("a", "b", "c"))
        times = [((1, 1, 0), 2), ((1, 1, 1), 2), ((3, 0, 5), 8)]
        for number in range(4):
            told = Told(3, times[:number]).plans
            for plan in every_plan(3):
                self.same(self.asked(survey.fits, plan), plan in told)
                self.same(survey.fits(turned(plan)), plan in told)
            if number < 3:
                survey.tell(*times[number])

    def test_other_works(self):
        for works in ((), ("a",), ("a", "b")):
            for plan in (Plan.of("a b c"), Plan.of("b"), Plan.of("a c"), Plan(()), Plan.of("a"), Plan.of("a b; a b")):
                if plan.works != works:
                    self.denied(OtherWorks, {}, Survey(works).fits, plan)

    def test_no_work(self):
        survey = Survey(("b", "c"))
        for one, other, name in (("a", "b", "a"), ("b", "z", "z"), ("z", "a", "z"), ("cc", "bb", "cc")):
            self.denied(NoWork, {"name": name}, survey.in_row, one, other)
        self.denied(NoWork, {"name": "a"}, Survey(()).in_row, "a", "b")


class Telling(Case):
    def test_bad_answer(self):
        survey = Survey(("a", "b", "c"))
        for durations, time in (
            ((1, 1, 0), 3), ((1, 1, 0), 0), ((0, 0, 0), 1), ((0, 0, 0), -1), ((4, 2, 1), 3), ((4, 2, 1), 8),
            ((GREAT, 0, 0), GREAT - 1), ((1, 2, 4), -10 ** 30),
        ):
            self.denied(BadAnswer, {"answer": time}, survey.tell, durations, time)
            self.same((survey.told, survey.how_many(), len(survey)), ((), 8, 0))
        self.refused(BadAnswer, {"answer": 1}, Survey(()).tell, (), 1)
        self.refused(BadAnswer, {"answer": 6}, Survey(("a",)).tell, (5,), 6)
        self.same(Survey(()).tell((), 0), None)

    def test_against_what_was_told(self):
        survey = Survey(("a", "b", "c"))
        survey.tell((1, 1, 0), 2)
        survey.tell((1, 0, 1), 1)
        before = (survey.told, survey.how_many(), survey.span((1, 2, 4)))
        self.refused(BadAnswer, {"answer": 1}, survey.tell, (1, 1, 0), 1)
        self.refused(BadAnswer, {"answer": 3}, survey.tell, time=3, durations=(1, 1, 1))
        self.same((survey.told, survey.how_many(), survey.span((1, 2, 4))), before)
        survey.tell((1, 1, 1), 2)
        self.same(survey.in_row("a", "b"), True)

    def test_every_answer(self):
        for durations in itertools.product((0, 1, 2), repeat=3):
            right = {time_by_rows(plan, durations) for plan in every_plan(3)}
            for time in range(-1, 9):
                survey = Survey(("a", "b", "c"))
                if time in right:
                    self.same(survey.tell(durations, time), None)
                else:
                    self.refused(BadAnswer, {"answer": time}, survey.tell, durations, time)

    def test_back(self):
        survey, seen = Survey(("a", "b", "c")), []
        times = [((1, 1, 0), 2), ((1, 1, 1), 2), ((0, 0, 0), 0), ((3, 0, 5), 8)]
        for durations, time in times:
            seen.append((survey.told, survey.how_many(), survey.span((1, 2, 4)), len(survey)))
            survey.tell(durations, time)
        for before in seen[::-1]:
            self.same(survey.back(), None)
            self.same((survey.told, survey.how_many(), survey.span((1, 2, 4)), len(survey)), before)
        for _ in range(2):
            self.denied(NothingDone, {}, survey.back)
        self.same((survey.how_many(), survey.told), (8, ()))

    def test_a_refused_time_is_not_taken_back(self):
        survey = Survey(("a", "b"))
        survey.tell((1, 1), 2)
        self.refused(BadAnswer, {"answer": 1}, survey.tell, (1, 1), 1)
        survey.back()
        self.same((survey.told, survey.how_many()), ((), 2))

    def test_twin(self):
        survey = Survey(("a", "b", "c"))
        survey.tell((1, 1, 0), 2)
        mate = survey.twin()
        self.assertTrue(mate == survey and type(mate) is Survey and mate is not survey)
        mate.tell((0, 1, 1), 1)
        self.same((len(survey), len(mate), survey == mate, survey.how_many(), mate.how_many()), (1, 2, False, 4, 2))
        mate.back()
        mate.back()
        self.same((len(survey), len(mate), survey.how_many(), mate.how_many()), (1, 0, 4, 8))
        survey.tell((1, 0, 1), 2)
        self.same((survey.told, mate.told), ((((1, 1, 0), 2), ((1, 0, 1), 2)), ()))
        self.refused(NothingDone, {}, mate.back)

    def test_equal(self):
        one, other = Survey(("a", "b")), Survey(["a", "b"])
        self.assertTrue(one == other and not one != other)
        one.tell((1, 1), 2)
        self.assertTrue(one != other and not one == other)
        other.tell([1, 1], 2)
        self.assertTrue(one == other)
        one.tell((0, 0), 0)
        one.tell((2, 1), 3)
        other.tell((2, 1), 3)
        other.tell((0, 0), 0)
        self.assertTrue(one != other)
        self.assertFalse(Survey(()) == Survey(("a",)))
        for thing in THINGS + [Plan.of("a b"), ("a", "b"), Survey]:
            self.assertIs(one == thing, False)
            self.assertIs(thing != one, True)

    def test_lists_are_copied(self):
        works, durations = ["a", "b"], [1, 1]
        survey = Survey(works)
        survey.tell(durations, 2)
        works.append("c")
        durations[0] = 7
        self.same((survey.works, survey.told), (("a", "b"), (((1, 1), 2),)))
        self.same(Survey(works=("a",)).works, ("a",))

    def test_properties_have_no_setters(self):
        survey = Survey(("a",))
        for name in ("works", "told"):
            with self.assertRaises(AttributeError):
                setattr(survey, name, ())


def noting(call, seen):
    def asker(durations):
        seen.append(durations)
        return call(durations)
    return asker


class Surveyed(Case):
    def test_hidden_plans(self):
        for plan in every_plan(0) + every_plan(1) + every_plan(2) + every_plan(3) + every_plan(4)[::9] + some_plans(4):
            for call, tell, told in (
                (surveyed_rows, lambda durations: time_of(plan, durations), row_pairs(plan)),
                (surveyed, lambda durations: begins(plan, durations), all_waits(plan)),
                (surveyed, lambda durations: list(begins(plan, durations)), all_waits(plan)),
            ):
                seen = []
                asker = noting(tell, seen)
                self.same(self.asked(call, plan.works, asker), told)
                for durations in seen:
                    self.assertTrue(type(durations) is tuple and len(durations) == len(plan) and any(durations))
                    self.assertTrue(all(type(lasts) is int and lasts in (0, 1) for lasts in durations))

    def possible(self, many, durations, call):
        return [call(plan, durations) for plan in every_plan(many)]

    def test_bad_answers(self):
        works = ("a", "b", "c")
        for wrong in THINGS + [3, 2, (1, 2), (0, 0), (0, 0, 0, 0), (0, True, 0), (0, 0, "0"), (0, 2, 0),
                               (0, -1, 1), (0, None, 0), (0, (0,), 0), nested(12, 0), (1, 1, 1), (0, 1, 2)]:
            for call, tell in ((surveyed_rows, time_of), (surveyed, begins)):
                self.wrong(works, wrong, call, tell)

    def wrong(self, works, wrong, call, tell):
        """This answer, and it as a list, is told if no Plan gives it to one question."""
        for number in range(3):
            for answer in (wrong, list(wrong) if isinstance(wrong, tuple) else wrong):
                seen = []

                def asker(durations):
                    seen.append(durations)
                    return answer if len(seen) == number + 1 else tell(Plan(works), durations)

                right = False
                try:
                    call(works, asker)
                    right = True
                except BadAnswer as error:
                    self.same(error.answer, told_as(answer))
                    self.assertEqual(len(seen), number + 1)
                given = [repr(time) for time in self.possible(3, seen[number], tell)]
                kept = tuple(answer) if call is surveyed and type(answer) is list else answer
                self.assertIs(right, repr(kept) in given)

    def test_the_first_bad_answer(self):
        answers = iter([1, 2, "no", "none"])
        self.refused(BadAnswer, {"answer": "no"}, surveyed_rows, ("a", "b", "c"), lambda durations: next(answers))
        answers = iter([(0, 1, 1), [0, [1], 7], "none"])
        self.refused(BadAnswer, {"answer": (0, (1,), 7)}, surveyed, ("a", "b", "c"), lambda durations: next(answers))

    def test_lists_are_told_as_tuples(self):
        for answer in ([], [1], [[1], (2, [3])], ([],), nested(12, 1, list)):
            for call in (surveyed_rows, surveyed):
                self.refused(BadAnswer, {"answer": told_as(answer)}, call, ("a", "b"), lambda durations: answer)

    def test_what_asker_raises_is_passed_on(self):
        class Odd(Exception):
            pass

        def asker(durations):
            raise Odd(durations)

        for call in (surveyed_rows, surveyed):
            self.assertRaises(Odd, call, ("a", "b"), asker)
            with self.assertRaises(BadAnswer) as caught:
                call(works=["a", "b"], asker=lambda durations: call(("x", "y"), lambda more: "mine"))
            self.same(caught.exception.answer, "mine")

    def test_works_that_asker_changes(self):
        for call, tell in ((surveyed_rows, 2), (surveyed, (0, 0))):
            works = ["a", "b"]

            def asker(durations):
                works.append("c")
                return tell

            self.same(call(works, asker), (("a", "b"),) if call is surveyed_rows else ())

    def test_no_works_and_one(self):
        self.same((surveyed_rows((), lambda durations: None), surveyed((), lambda durations: None)), ((), ()))
        self.same((surveyed_rows(("a",), lambda durations: 1), surveyed(("a",), lambda durations: [0])), ((), ()))

    def test_ten_works_in_a_row(self):
        works = tuple(LETTERS)
        line = Plan(works, tuple(zip(works, works[1:])))
        self.same(len(surveyed_rows(works, lambda durations: time_of(line, durations))), 45)
        self.same(surveyed(works, lambda durations: begins(turned(line), durations)), all_waits(turned(line)))


def told_as(value):
    return tuple(told_as(item) for item in value) if isinstance(value, (list, tuple)) else value


if __name__ == "__main__":
    unittest.main()
