"""Points [1] to [21] together: what holds if NAMEs, DURATIONS or Plans are put otherwise, and deeds are taken back."""

import itertools
import random
import unittest

from lateplans import alike, bounded, counts, factor, fewer, hands, joins, plans, rows, sums, times, whenever
from lateplans.board import Board
from lateplans.changes import Watch
from lateplans.desk import answers
from lateplans.errors import BadAnswer, PlanError
from lateplans.hidden import Survey, surveyed, surveyed_rows
from lateplans.plans import Plan, turned
from lateplans.ranks import Table
from lateplans.texts import durations_text, pairs_text, works_text
from tests.asserts import Case
from tests.oracle import LETTERS, every_plan, some_durations, some_plans, two_plans

BOTH = two_plans(2) + list(zip(every_plan(3)[::2], every_plan(3)[1::2])) + [(Plan(()), Plan(()))]
MANY = 10 ** 28 + 7


def put_otherwise(value, news):
    """The same with other NAMEs, sets and sets of sets ascending again."""
    if isinstance(value, Plan):
        return Plan(tuple(sorted(news[name] for name in value.works)), put_otherwise(value.pairs, news))
    if isinstance(value, (tuple, list)):
        return type(value)(put_otherwise(item, news) for item in value)
    return news.get(value, value) if isinstance(value, str) else value


def ascending(value):
    """The same, each tuple and list in it in some order of its own; pairs stay."""
    if isinstance(value, (tuple, list)):
        items = [ascending(item) for item in value]
        return type(value)(sorted(items, key=repr))
    return value


class OtherNames(Case):
    def cases(self):
        chance = random.Random(31)
        for one, other in BOTH:
            names = chance.sample(["kk", "ab", "b", "zebra", "y", "abcdefgh", "m", "aa", "c", "n"], len(one))
            news = dict(zip(one.works, names))
            order = [one.works.index(name) for name in sorted(news, key=lambda own: news[own])]
            durations = some_durations(one, 2, chance.randint(1, 99))[-1]
            yield one, other, news, order, durations

    def test_durations(self):
        for one, _, news, order, durations in self.cases():
            plan, lasts = put_otherwise(one, news), tuple(durations[place] for place in order)
            for call in (times.begins, times.ends, times.latest_begins, times.slacks):
                told = call(one, durations)
                self.same(call(plan, lasts), tuple(told[place] for place in order))
            for call in (times.time_of, times.how_many_longest, times.most_at_once):
                self.same(call(plan, lasts), call(one, durations))
            told = put_otherwise(times.critical(one, durations), news)
            self.same(times.critical(plan, lasts), tuple(sorted(told)))
            row = put_otherwise(times.longest_row(one, durations), news)
            self.same(times.is_longest_row(plan, lasts, tuple(sorted(row))), True)
            queue = one.works[::-1]
            begun = hands.begins_by(one, durations, 2, queue)
            self.same(hands.begins_by(plan, lasts, 2, put_otherwise(queue, news)), tuple(begun[place] for place in order))
            self.same(sums.cut_price(plan, lasts, lasts), sums.cut_price(one, durations, durations))
            for name in one.works:
                self.same(sums.first_critical(plan, lasts, news[name]), sums.first_critical(one, durations, name))

    def test_two_plans(self):
        for one, other, news, order, durations in self.cases():
            first, second = put_otherwise(one, news), put_otherwise(other, news)
            lasts = tuple(durations[place] for place in order)
            self.same(factor.factor(first, second), factor.factor(one, other))
            self.same(factor.as_long(first, second, lasts), factor.as_long(one, other, durations))
            self.same(alike.never_longer(first, second), alike.never_longer(one, other))
            zeros = (0,) * len(one)
            for call in (bounded.most_late, bounded.least_late, bounded.never_late):
                self.same(call(first, second, (zeros, lasts)), call(one, other, (zeros, durations)))
            for call in (fewer.telling_pairs, fewer.helping_pairs):
                self.same(call(first, second), tuple(sorted(put_otherwise(call(one, other), news))))
            some = tuple(sorted(put_otherwise(factor.row_and_side(one, other), news)))
            self.same(factor.is_lot_against(first, second, len(some) - 1, some), True)

    def test_one_plan(self):
        for one, _, news, _, _ in self.cases():
            plan = put_otherwise(one, news)
            for call in (rows.longest, rows.width, hands.hands_needed, counts.how_many_orders, alike.how_many_alike):
                self.same(call(plan), call(one))
            for call in (plans.all_waits, plans.needless_pairs):
                self.same(call(plan), tuple(sorted(put_otherwise(call(one), news))))
            for call in (rows.great_rows, rows.great_lots, whenever.twins):
                self.same(ascending(call(plan)), ascending(put_otherwise(call(one), news)))
            for name in one.works:
                for call in (counts.first_place, counts.last_place):
                    self.same(call(plan, news[name]), call(one, name))
                self.same(counts.how_many_at(plan, news[name], 1), counts.how_many_at(one, name, 1))
                self.same(whenever.one_surely(plan, (news[name],)), whenever.one_surely(one, (name,)))


class TurnedAbout(Case):
    def test_one_plan(self):
        for plan, _ in BOTH:
            about = turned(plan)
            self.assertTrue(turned(about) == plan)
            for call in (
                rows.longest, rows.width, rows.great_rows, rows.great_lots, whenever.always_critical, whenever.twins,
                hands.hands_needed, counts.how_many_orders, alike.how_many_alike, plans.row_pairs,
            ):
                self.same(call(about), call(plan))
            for name in plan.works:
                self.same(counts.first_place(about, name), len(plan) - 1 - counts.last_place(plan, name))
            for one, other in list(itertools.permutations(plan.works, 2))[::3]:
                self.same(plans.waits_for(about, one, other), plans.waits_for(plan, other, one))
                self.same(whenever.always_with(about, one, other), whenever.always_with(plan, one, other))
                self.same(counts.how_many_ahead(about, one, other), counts.how_many_ahead(plan, other, one))

    def test_durations(self):
        for plan, _ in BOTH:
            about = turned(plan)
            for durations in some_durations(plan, 3):
                time = times.time_of(plan, durations)
                for call in (times.time_of, times.slacks, times.critical, times.how_many_longest):
                    self.same(call(about, durations), call(plan, durations))
                ends = times.ends(about, durations)
                self.same(times.latest_begins(plan, durations), tuple(time - stop for stop in ends))
                self.same(sums.cut_price(about, durations, durations), sums.cut_price(plan, durations, durations))
                for name in plan.works:
                    self.same(sums.first_critical(about, durations, name), sums.first_critical(plan, durations, name))

    def test_two_plans(self):
        for one, other in BOTH:
            first, second = turned(one), turned(other)
            limits = ((1,) * len(one), (7,) * len(one))
            for call in (factor.factor, alike.never_longer, alike.alike, alike.longer_at):
                self.same(call(first, second), call(one, other))
                self.same(call(first, other), call(one, other))
            for call in (bounded.most_late, bounded.least_late, bounded.never_late):
                self.same(call(first, second, limits), call(one, other, limits))
            told = tuple(sorted((last, name) for name, last in fewer.telling_pairs(one, other)))
            self.same(fewer.telling_pairs(first, other), told)
            for work in one.works:
                self.same(joins.most_with(first, other, work), joins.most_with(one, other, work))


class ManyTimesAsLong(Case):
    def test_times(self):
        for plan, other in BOTH:
            for durations in some_durations(plan, 2, 12):
                longer = tuple(MANY * lasts for lasts in durations)
                for call in (times.begins, times.ends, times.latest_begins, times.slacks):
                    self.same(call(plan, longer), tuple(MANY * own for own in call(plan, durations)))
                for call in (times.critical, times.how_many_longest, times.most_at_once):
                    self.same(call(plan, longer), call(plan, durations))
                self.same(times.time_of(plan, longer), MANY * times.time_of(plan, durations))
                self.same(factor.as_long(plan, other, longer), factor.as_long(plan, other, durations))
                begun = hands.begins_by(plan, durations, 2, plan.works)
                self.same(hands.begins_by(plan, longer, 2, plan.works), tuple(MANY * own for own in begun))
                row = hands.row_by(plan, durations, 2, plan.works)
                self.same(hands.is_row_by(plan, longer, 2, plan.works, row), True)
                if len(plan) < 7:
                    self.same(hands.least_time_by(plan, longer, 2), MANY * hands.least_time_by(plan, durations, 2))
                several, more = (durations, durations[::-1]), (longer, longer[::-1])
                self.same(sums.lost(plan, more), MANY * sums.lost(plan, several))
                self.same(sums.cut_price(plan, longer, durations), sums.cut_price(plan, durations, durations))
                for name in plan.works:
                    self.same(sums.first_critical(plan, longer, name), MANY * sums.first_critical(plan, durations, name))

    def test_limits(self):
        for one, other in BOTH:
            limits = ((1,) * len(one), tuple(range(2, len(one) + 2)))
            longer = tuple(tuple(MANY * own for own in part) for part in limits)
            for call in (bounded.most_late, bounded.least_late):
                self.same(call(one, other, longer), MANY * call(one, other, limits))


class TwoInThePlaceOfOne(Case):
    def cases(self):
        chance = random.Random(33)
        for plan, other in BOTH:
            durations = some_durations(plan, 3, chance.randint(1, 99))[-1]
            for place, name in list(enumerate(plan.works))[::2]:
                if len(plan) < 10:
                    yield plan, other, durations, place, name

    def lasting(self, plan, wide, durations, more):
        """How long the works of wide last: those of the Plan as they did."""
        lasts = dict(zip(plan.works, durations))
        return tuple({**lasts, **more}[name] for name in wide.works)

    def test_behind_one_another(self):
        for plan, other, durations, place, name in self.cases():
            long = joins.put_into(plan, name, Plan.of("x y; x y"))
            lasts = self.lasting(plan, long, durations, {"x": durations[place] // 3, "y": durations[place] - durations[place] // 3})
            self.same(times.time_of(long, lasts), times.time_of(plan, durations))
            for own in ("x", "y"):
                self.same(own in times.critical(long, lasts), name in times.critical(plan, durations))
            self.same((whenever.always_with(long, "x", "y"), whenever.always_with(long, "y", "x")), (True, True))
            self.same(rows.width(long), rows.width(plan))
            self.same(hands.hands_needed(long), hands.hands_needed(plan))
            more = joins.put_into(other, name, Plan.of("x y; x y"))
            self.same(factor.factor(long, more), factor.factor(plan, other))

    def test_beside_one_another(self):
        for plan, other, durations, place, name in self.cases():
            wide = joins.put_into(plan, name, Plan.of("x y"))
            for shorter in (0, durations[place] // 2, durations[place]):
                lasts = self.lasting(plan, wide, durations, {"x": durations[place], "y": shorter})
                self.same(times.time_of(wide, lasts), times.time_of(plan, durations))
                self.same("x" in times.critical(wide, lasts), name in times.critical(plan, durations))
            self.same(rows.longest(wide), rows.longest(plan))
            self.same(plans.in_row(wide, "x", "y"), False)
            more = joins.put_into(other, name, Plan.of("x y"))
            self.same(factor.factor(wide, more), factor.factor(plan, other))
            alone = factor.factor(*(plans.only(own, tuple(x for x in plan.works if x != name)) for own in (plan, other)))
            long = joins.put_into(plan, name, Plan.of("x y; x y"))
            self.same(factor.factor(long, more), max(alone, joins.most_with(plan, other, name) + 1))

    def test_orders(self):
        for plan, _, _, _, name in self.cases():
            wide, long = (joins.put_into(plan, name, Plan.of(text)) for text in ("x y", "x y; x y"))
            self.same(counts.how_many_orders(wide), 2 * counts.how_many_orders(long))
            self.same(counts.how_many_ahead(wide, "x", "y"), counts.how_many_orders(long))


class TakenBack(Case):
    def test_boards_and_watches(self):
        chance = random.Random(34)
        for plan, _ in BOTH:
            if len(plan) < 2:
                continue
            board, watch = Board(), Watch(plan, (1,) * len(plan))
            board.put("x", plan)
            before = (board.twin(), watch.twin())
            for _ in range(10):
                deed, pair = chance.choice(("wait", "free")), chance.sample(plan.works, 2)
                told = []
                for call, words in ((getattr(board, deed), ["x"] + pair), (getattr(watch, deed), pair)):
                    try:
                        call(*words)
                        told.append(None)
                    except PlanError as wrong:
                        told.append((type(wrong), vars(wrong)))
                self.same(told[0], told[1])
                self.assertTrue(board["x"] == watch.plan)
                self.same(board.time_of("x", (1,) * len(plan)), watch.time)
            while len(watch):
                board.undo()
                watch.back()
                self.assertTrue(board["x"] == watch.plan)
            self.assertTrue((board, watch) == before)

    def test_surveys(self):
        for plan in every_plan(3) + every_plan(4)[::40]:
            survey, before = Survey(plan.works), []
            for durations in some_durations(plan, 4):
                before.append(survey.twin())
                survey.tell(durations, times.time_of(plan, durations))
                self.assertRaises(BadAnswer, survey.tell, durations, -1)
                self.same((survey.fits(plan), survey.fits(turned(plan))), (True, True))
                low, high = survey.span((3, 1, 4, 1)[:len(plan)])
                self.assertTrue(low <= times.time_of(plan, (3, 1, 4, 1)[:len(plan)]) <= high)
            for mate in before[::-1]:
                survey.back()
                self.assertTrue(survey == mate)
                self.same(survey.how_many(), mate.how_many())

    def test_a_hidden_plan_on_a_board(self):
        for plan, _ in BOTH:
            board = Board()
            board.put("x", plan)
            self.same(surveyed_rows(plan.works, lambda own: board.time_of("x", own)), plans.row_pairs(plan))
            self.same(surveyed(plan.works, lambda own: times.begins(board["x"], own)), plans.all_waits(plan))


class Desks(Case):
    def test_beside_board_and_table(self):
        for seed in range(12):
            some = some_plans(5, sizes=(4,), seed=seed)
            table_rows = tuple(zip(("q", "r", "s", "t", "u"), some))
            board, table = Board(), Table(table_rows)
            lines = []
            for name, plan in table_rows:
                board.put(name, plan)
                lines.append("plan " + name + " " + plan.text)
            expected = ["done"] * 5
            for name, to in itertools.product(table.names, repeat=2):
                lines += ["factor " + name + " " + to, "never " + name + " " + to]
                many, never = table.factor_of(name, to), table.is_never_longer(name, to)
                self.same((board.factor(name, to), board.never_longer(name, to)), (many, never))
                expected += [str(many), "yes" if never else "no"]
            self.same(answers("\n".join(lines)), expected)
            layers = table.layers()
            if board.never_beaten():
                self.assertTrue(set(board.never_beaten()) <= set(layers[0]))

    def test_texts(self):
        for plan, _ in BOTH:
            for durations in some_durations(plan, 2):
                text = works_text(plan.works) + "".join("; " + pairs_text((pair,)) for pair in plan.pairs)
                lines = ["plan x " + text, "time x " + durations_text(durations), "text x", "names"]
                self.same(answers("\n".join(lines)), ["done", str(times.time_of(plan, durations)), text, "x"])

    def test_deeds_taken_back(self):
        for plan, _ in BOTH[:12]:
            pairs = [pair for pair in itertools.permutations(LETTERS[:3], 2)]
            lines = ["plan x " + plan.text] + ["wait x " + " ".join(pair) for pair in pairs]
            told = answers("\n".join(lines + ["text x"]))
            many = told[1:-1].count("done")
            again = answers("\n".join(lines + ["undo"] * many + ["text x", "undo", "names", "undo"]))
            self.same(again[-4:], [plan.text, "done", "-", "refused NothingDone"])
            self.same(set(told[1:-1]) <= {"done", "refused BadPair"}, True)


if __name__ == "__main__":
    unittest.main()
