"""[16.1] to [16.3]: a bench."""

import random
import unittest

from levelroads.base.ratios import Ratio
from levelroads.doing.doings import done, is_staying, turned
from levelroads.errors import (
    InvalidCount, InvalidFraction, InvalidLevel, InvalidOperation, InvalidSum, NothingToUndo, Refused, TooMany,
    UnknownName)
from levelroads.rim.rims import are_same_rim
from levelroads.symbol.symbols import Space
from levelroads.use import bench as module
from levelroads.use.bench import Bench, is_pledge
from support import NO_FRACTIONS, NO_INTEGERS, NO_LEVELS, SIXTY, SIXTY_ONE, Case

ELEVEN, TWELVE = Space(11), Space(12)
SOME = ELEVEN.symbol(1, 2)
NO_SUMS = NO_INTEGERS + (0, "0", ELEVEN, [SOME], (SOME,), SOME.row)
NO_NAMES = tuple(value for value in NO_INTEGERS if value != "a") + (0, "A", "one two", "abcdefghi", "a1", "-", ["a"],
                                                                    ("a",), SOME, b"a")
NO_MANY = NO_INTEGERS + (-1, -SIXTY, "2", (1,))
PLEDGES = (
    ("closed", "one"), ("staying", "a"), ("same", "one", "one"), ("turned", "abcdefgh", "b"), ("done", "a", 5, "b"),
    ("done", "a", 0, "b"), ("done", "a", -3, "b"), ("done", "a", SIXTY, "b"), ("value", "a", 0, "a"),
    ("value", "a", -SIXTY, "b"))
NO_PLEDGES = NO_INTEGERS + (
    0, "closed", ("closed",), ["closed", "one"], ("Closed", "one"), ("closed", "One"), ("closed", ""), ("closed", None),
    ("closed", "one", "two"), ("staying", "one", 2), ("same", "one"), ("same", "one", 1), ("same", "one", "two", "two"),
    ("turned", "one", None), ("done", "one", "two"), ("done", "one", "two", 2), ("done", 2, "one", "two"),
    ("done", "one", True, "two"), ("done", "one", SIXTY_ONE, "two"), ("done", "one", Ratio(2), "two"),
    ("done", "one", None, "two"), ("value", "one", 2), ("value", "one", "2", "two"), ("value", "one", False, "two"),
    ("value", "one", 2, "two", "two"), ("value", 1, 2, 3), ("open", "one"), ("open",), (None, "one"), (["closed"], "one"),
    (("closed", "one"),), ({}, "a"), ("closed", ["one"]), ("", ""), ("done", "one", (2,), "two"), SOME, Bench(11))


def plain_holds(pledge, sums):
    names = [pledge[1], pledge[-1]]
    if not all(name in sums for name in names):
        return False
    one, other = (sums[name] for name in names)
    return {
        "closed": lambda: one.is_closed, "staying": lambda: is_staying(one), "same": lambda: one == other,
        "turned": lambda: turned(one) == other, "value": lambda: one.scaled(pledge[2]) == other,
        "done": lambda: 1 <= pledge[2] <= 60 and done(one, pledge[2]) == other}[pledge[0]]()


class Model:
    """A bench by the words of [16.1] and [16.2]: all states, and which of them is there."""

    def __init__(self, level):
        self.level, self.states, self.at = level, [({}, [])], 0

    def sums(self):
        return dict(self.states[self.at][0])

    def pledges(self):
        return list(self.states[self.at][1])

    def lines(self, at=None):
        sums = self.states[self.at if at is None else at][0]
        return (f"level {self.level}",) + tuple(f"sum {name}: {sums[name]}" for name in sorted(sums))

    def news(self, before):
        old, new = self.lines(before), self.lines()
        return tuple(sorted(set(old) - set(new))), tuple(sorted(set(new) - set(old)))

    def change(self, sums, pledges):
        for pledge in pledges:
            if not plain_holds(pledge, sums):
                return pledge
        self.states = self.states[:self.at + 1] + [(sums, pledges)]
        self.at += 1
        return None


class Examples(Case):
    def test_examples(self):
        bench, kept = Bench(11), ("closed", "one")
        self.same([bench.draw("one", (0, 1), (-1, 4)), bench.demand(kept), bench.lines, str(bench)],
                  [((), ('sum one: 1*(1, 2) + -1*(1, 3)',)), ((), ()), ('level 11', 'sum one: 1*(1, 2) + -1*(1, 3)'),
                   'bench of level 11 with 1 sums, 1 pledges'])
        self.same([bench.blend("two", "one", "one", times=-3), bench.demand(("value", "one", -2, "two")), bench.names,
                   bench.changes], [((), ('sum two: -2*(1, 2) + 2*(1, 3)',)), ((), ()), ('one', 'two'), 4])
        self.refused_with(Refused, "reason", ("value", "one", -2, "two"), bench.turn, "one")
        self.same([bench.waive(("value", "one", -2, "two")), bench.turn("one"), bench.undo(), bench.drop("two"),
                   bench.undo(many=2), len(bench), kept in bench],
                  [((), ()), (('sum one: 1*(1, 2) + -1*(1, 3)',), ('sum one: 1*(1, 3)',)),
                   (('sum one: 1*(1, 3)',), ('sum one: 1*(1, 2) + -1*(1, 3)',)),
                   (('sum two: -2*(1, 2) + 2*(1, 3)',), ()), ((), ('sum two: -2*(1, 2) + 2*(1, 3)',)), 2, True])
        self.same(bench.draw("end", (0, 1), (1, 0)), ((), ('sum end: 1*(0, 1)',)))
        self.refused_with(Refused, "reason", ("closed", "end"), bench.demand, ("closed", "end"))

    def test_constants(self):
        self.same([module.MAX_SUMS, module.MAX_PLEDGES], [6, 10])


class Pledges(Case):
    def test_is_pledge(self):
        for value in PLEDGES:
            self.assertIs(is_pledge(value), True)
        for value in NO_PLEDGES:
            self.assertIs(is_pledge(value), False)

    def test_what_holds(self):
        """[16.2]: each kind of pledge, for sums with which it holds and with which it does not."""
        bench = Bench(11)
        one, open_sum, other = SOME, ELEVEN.symbol(0, 1), ELEVEN.symbol(1, 3)
        for name, told in (("one", one), ("two", open_sum), ("three", other), ("four", turned(other)),
                           ("five", one.scaled(-2))):
            bench.put(name, told)
        sums = {name: bench.sum_named(name) for name in bench.names}
        held = [("closed", "one"), ("closed", "three"), ("staying", "one"), ("same", "one", "one"),
                ("turned", "three", "four"), ("turned", "one", "one"), ("done", "one", 2, "five"),
                ("done", "three", 1, "three"), ("value", "one", -2, "five"), ("value", "two", 1, "two"),
                ("turned", "four", "three"), ("done", "one", 3, "one"), ("value", "one", 5, "one")]
        broken = [("closed", "two"), ("staying", "two"), ("staying", "three"), ("same", "one", "two"),
                  ("turned", "three", "three"), ("done", "one", 2, "one"), ("done", "one", 0, "one"),
                  ("done", "one", 61, "one"), ("done", "one", -1, "one"), ("done", "one", SIXTY, "one"),
                  ("value", "one", 2, "five"), ("value", "one", SIXTY, "two"), ("closed", "six"), ("same", "one", "six"),
                  ("same", "six", "one"), ("same", "six", "six"), ("done", "one", 2, "six"), ("value", "six", 1, "six")]
        for pledge in held + broken:
            if plain_holds(pledge, sums):
                self.same(bench.demand(pledge), ((), ()))
                self.assertTrue(pledge in bench and pledge in bench.pledges)
                self.same(bench.waive(pledge), ((), ()))
                self.assertFalse(pledge in bench or pledge in bench.pledges)
            else:
                self.refused_with(Refused, "reason", pledge, bench.demand, pledge)
        self.assertEqual([plain_holds(pledge, sums) for pledge in held[:10] + broken], [True] * 10 + [False] * 18)

    def test_first_one(self):
        """The first pledge that would not hold, in the order of demands."""
        bench = Bench(11)
        bench.put("one", SOME)
        bench.put("two", SOME)
        for pledge in (("staying", "two"), ("same", "one", "two"), ("closed", "one"), ("staying", "one")):
            bench.demand(pledge)
        self.refused_with(Refused, "reason", ("same", "one", "two"), bench.do, "one", 2)
        self.refused_with(Refused, "reason", ("same", "one", "two"), bench.drop, "one")
        self.refused_with(Refused, "reason", ("staying", "two"), bench.drop, "two")
        self.refused_with(Refused, "reason", ("staying", "two"), bench.rename, {"one": "one", "two": "three"})
        self.same([bench.rename({"one": "two", "two": "one"}), bench.changes, len(bench)], [((), ()), 7, 4])
        self.refused_with(Refused, "reason", ("closed", "end"), bench.demand, ("closed", "end"))
        self.same(bench.pledges, (("staying", "two"), ("same", "one", "two"), ("closed", "one"), ("staying", "one")))

    def test_doing_all(self):
        """[16.3]"""
        chance = random.Random(191)
        for level in (11, 14, 23, 26):
            space = Space(level)
            rows = space.closed_rows()
            for number in (2, 3, 4, 7, 13, 22):
                one = space.sum_of(rows[0]).scaled(chance.randint(1, 5))
                sums = {"a": one, "b": turned(one), "c": done(one, 3), "d": one.scaled(-4), "e": one.plus(turned(one)),
                        "f": space.path((0, 1), (1, 0))}
                pledges = [("closed", "a"), ("turned", "a", "b"), ("done", "a", 3, "c"), ("value", "a", -4, "d"),
                           ("staying", "e"), ("same", "a", "a")]
                for change in (lambda told: done(told, number), turned):
                    changed = {name: change(told) for name, told in sums.items()}
                    self.assertTrue(all(plain_holds(pledge, sums) for pledge in pledges))
                    self.assertTrue(all(plain_holds(pledge, changed) for pledge in pledges))
        bench = Bench(22)
        for one, other in (((0, 1), (1, 3)), ((1, 2), (3, 4)), ((1, 11), (5, 22)), ((1, 0), (1, 22))):
            bench.draw("a", one, other)
            self.assertIs(bench.sum_named("a").is_closed, are_same_rim(22, one, other))
            bench.undo()


class Histories(Case):
    def test_drawn(self):
        chance = random.Random(192)
        for level in (11, 11, 11, 12, 23, 1, 26, 22) * 6:
            self.history(chance, level)

    def history(self, chance, level):
        space = Space(level)
        bench, model = Bench(level), Model(level)
        sums = [space.zero] + list(space) + [space.sum_of(row) for row in space.closed_rows()]
        for _ in range(120):
            self.step(chance, bench, model, sums)
            self.check(bench, model)

    def check(self, bench, model):
        sums, pledges = model.sums(), model.pledges()
        self.same([bench.level, bench.names, bench.lines, bench.pledges, bench.changes, len(bench), tuple(bench)],
                  [model.level, tuple(sorted(sums)), model.lines(), tuple(pledges), model.at, len(pledges),
                   model.lines()])
        for name, told in sums.items():
            self.assertEqual(bench.sum_named(name), told)
        self.same(str(bench), f"bench of level {model.level} with {len(sums)} sums, {len(pledges)} pledges")
        self.assertTrue(all(value in bench for value in model.lines() + tuple(pledges)))

    def step(self, chance, bench, model, sums):
        names = ("a", "b", "one", "two", "three", "zz", "last")
        held, pledges, before = model.sums(), model.pledges(), model.at
        known = tuple(held) if held and chance.randint(0, 4) else names
        name, one, other = (chance.choice(known) for _ in range(3))
        kind = chance.choice(("put", "draw", "blend", "do", "turn", "drop", "rename", "demand", "demand", "demand",
                              "waive", "undo", "redo"))
        if kind in ("put", "draw", "blend") and chance.randint(0, 4):
            name = chance.choice([new for new in names if new not in held])
        if kind in ("undo", "redo"):
            many = chance.choice((0, 1, 1, 1, 2, 3, 7))
            most = before if kind == "undo" else len(model.states) - 1 - before
            call = getattr(bench, kind)
            if many > most:
                self.refused_with(NothingToUndo, "wanted", many, call, many=many)
            else:
                model.at += -many if kind == "undo" else many
                self.same(call() if many == 1 else call(many=many), model.news(before))
            return
        changed, args, named = dict(held), (name,), {}
        if kind in ("put", "draw", "blend"):
            told = chance.choice(sums)
            args = {"put": (name, told), "draw": (name, (1, 3), (1, 0)), "blend": (name, one, other)}[kind]
            if kind == "draw":
                told = Space(model.level).path((1, 3), (1, 0))
            if name in held:
                return self.wrong(InvalidOperation, bench, kind, args)
            if kind == "blend":
                named = {"times": chance.choice((-2, 0, 3))} if chance.randint(0, 1) else {}
                for missing in (one, other):
                    if missing not in held:
                        self.refused_with(UnknownName, "name", missing, bench.blend, *args, **named)
                        return
                told = held[one].plus(held[other].scaled(named.get("times", 1)))
            if len(held) == 6:
                self.refused_with(TooMany, "limit", 6, getattr(bench, kind), *args, **named)
                return
            changed[name] = told
        elif kind in ("do", "turn", "drop"):
            number = chance.choice((1, 2, 3))
            args = (name, number) if kind == "do" else (name,)
            if name not in held:
                self.refused_with(UnknownName, "name", name, getattr(bench, kind), *args)
                return
            changed[name] = done(held[name], number) if kind == "do" else turned(held[name])
            if kind == "drop":
                del changed[name]
        elif kind == "rename":
            new = chance.sample(names, len(held))
            args = (dict(zip(held, new)),)
            changed = {args[0][old]: told for old, told in held.items()}
        else:
            choice = [("closed", name), ("staying", name), ("same", name, one), ("turned", name, one),
                      ("done", name, chance.choice((1, 2, 61)), one), ("value", name, chance.choice((1, -1, 3)), one)]
            if chance.randint(0, 4):
                choice = [pledge for pledge in choice if plain_holds(pledge, held)] or choice
            pledge = chance.choice(choice)
            if kind == "waive" and pledges and chance.randint(0, 3):
                pledge = chance.choice(pledges)
            args = (pledge,)
            if (kind == "demand") == (pledge in pledges):
                return self.wrong(InvalidOperation, bench, kind, args)
            if kind == "demand" and len(pledges) == 10:
                self.refused_with(TooMany, "limit", 10, bench.demand, pledge)
                return
            pledges = pledges + [pledge] if kind == "demand" else [old for old in pledges if old != pledge]
        refused = model.change(changed, pledges)
        if refused:
            self.refused_with(Refused, "reason", refused, getattr(bench, kind), *args, **named)
        else:
            self.same(getattr(bench, kind)(*args, **named), model.news(before))

    def wrong(self, error, bench, kind, args):
        self.refused(error, getattr(bench, kind), *args)

    def test_undone_at_once(self):
        bench = Bench(11)
        bench.put("one", SOME)
        bench.demand(("staying", "one"))
        bench.turn("one")
        bench.do("one", 2)
        bench.waive(("staying", "one"))
        bench.drop("one")
        whole = bench.twin()
        self.same([bench.changes, bench.undo(many=6), bench.changes, bench.lines, bench.pledges],
                  [6, ((), ()), 0, ("level 11",), ()])
        self.same([bench.redo(many=2), bench.pledges, bench.lines],
                  [((), ("sum one: 1*(1, 2)",)), (("staying", "one"),), ("level 11", "sum one: 1*(1, 2)")])
        self.same([bench.redo(many=4), bench.changes, bench == whole, bench.undo(many=0), bench.redo(many=0)],
                  [(("sum one: 1*(1, 2)",), ()), 6, True, ((), ()), ((), ())])
        self.same([bench.undo(many=3), bench.undo(), bench.changes], [
            ((), ("sum one: 1*(1, 2)",)), ((), ()), 2])
        bench.turn("one")
        # Another change has come: what was taken back cannot be done again.
        self.refused_with(NothingToUndo, "wanted", 1, bench.redo)
        self.same(bench.redo(many=0), ((), ()))
        self.refused_with(NothingToUndo, "wanted", 4, bench.undo, many=4)
        self.refused_with(NothingToUndo, "wanted", SIXTY, bench.undo, many=SIXTY)

    def test_refused_changes_nothing(self):
        bench = Bench(11)
        bench.put("one", SOME)
        bench.put("two", SOME.scaled(3))
        bench.demand(("value", "one", 3, "two"))
        bench.put("three", SOME)
        bench.undo()
        kept = bench.twin()
        calls = (
            (InvalidOperation, bench.put, ("one", SOME)), (InvalidSum, bench.put, ("three", 5)),
            (InvalidFraction, bench.draw, ("three", (0, 1), (2, 4))), (UnknownName, bench.blend, ("four", "one", "x")),
            (UnknownName, bench.do, ("x", 2)), (InvalidCount, bench.do, ("one", 61)), (Refused, bench.do, ("one", 2)),
            (UnknownName, bench.turn, ("x",)), (Refused, bench.drop, ("two",)), (UnknownName, bench.drop, ("x",)),
            (InvalidOperation, bench.rename, ({},)), (Refused, bench.rename, ({"one": "two", "two": "one"},)),
            (InvalidOperation, bench.demand, (("value", "one", 3, "two"),)),
            (Refused, bench.demand, (("closed", "x"),)), (InvalidOperation, bench.waive, (("closed", "one"),)),
            (UnknownName, bench.sum_named, ("x",)))
        for error, call, args in calls:
            self.refused(error, call, *args)
            self.same([bench == kept, bench.changes, bench.lines, bench.pledges],
                      [True, 3, kept.lines, kept.pledges])
        self.same([bench.redo(), bench.changes], [((), ("sum three: 1*(1, 2)",)), 4])


class Trials(Case):
    def filled(self):
        bench = Bench(11)
        bench.put("one", SOME)
        bench.demand(("closed", "one"))
        bench.put("two", SOME)
        bench.put("three", SOME)
        bench.undo()
        return bench

    def as_before(self, bench):
        self.same([bench.names, bench.pledges, bench.changes, bench.lines],
                  [("one", "two"), (("closed", "one"),), 3, ("level 11", "sum one: 1*(1, 2)", "sum two: 1*(1, 2)")])
        other = bench.twin()
        self.same([other.redo(), other.undo(many=4)], [((), ("sum three: 1*(1, 2)",)), (
            ("sum one: 1*(1, 2)", "sum three: 1*(1, 2)", "sum two: 1*(1, 2)"), ())])

    def test_ending_well(self):
        bench = self.filled()
        with bench.trial() as same:
            self.assertIs(same, bench)
            bench.do("two", 2)
            bench.waive(("closed", "one"))
            same.drop("one")
            self.same([bench.names, bench.changes, len(bench)], [("two",), 6, 0])
        self.as_before(bench)
        with bench.trial():
            bench.undo(many=3)
            bench.put("zz", SOME)
        self.as_before(bench)
        with bench.trial() as same:
            same.redo()
            self.assertEqual(same.changes, 4)
        self.as_before(bench)

    def test_when_entered(self):
        """As it was when the block was entered, not when it was made."""
        bench = self.filled()
        block = bench.trial()
        bench.drop("two")
        with block:
            bench.put("last", SOME)
        self.same([bench.names, bench.changes], [("one",), 4])

    def test_one_in_another(self):
        bench = self.filled()
        with bench.trial():
            bench.put("a", SOME)
            with bench.trial() as same:
                same.put("b", SOME)
                same.undo(many=2)
                self.same(bench.names, ("one", "two"))
            self.same([bench.names, bench.changes], [("a", "one", "two"), 4])
            bench.undo()
            bench.turn("one")
        self.as_before(bench)

    def test_with_an_error(self):
        bench = self.filled()
        for error, call in ((ZeroDivisionError, lambda told: 1 // 0), (KeyError, lambda told: {}["x"]),
                            (Refused, lambda told: told.drop("one")), (TypeError, lambda: None)):
            with self.assertRaises(error):
                with bench.trial() as same:
                    same.put("a", SOME)
                    same.do("two", 3)
                    call(same)
            self.as_before(bench)
            with self.assertRaises(error):
                bench.during(call)
            self.as_before(bench)

    def test_during(self):
        bench = self.filled()
        self.same(bench.during(lambda told: (told.put("a", SOME), told.names, told is bench)),
                  (((), ("sum a: 1*(1, 2)",)), ("a", "one", "two"), True))
        self.as_before(bench)
        self.assertIs(bench.during(lambda told: None), None)
        self.same(bench.during(len), 1)
        self.same(bench.during(lambda told: told.during(lambda same: same.undo(many=3))),
                  (("sum one: 1*(1, 2)", "sum two: 1*(1, 2)"), ()))
        self.as_before(bench)

    def test_twin(self):
        bench = self.filled()
        twin = bench.twin()
        self.assertIs(type(twin), Bench)
        self.assertTrue(twin == bench and twin is not bench)
        bench.drop("two")
        self.as_before(twin)
        twin.redo()
        self.same([bench.names, twin.names, twin != bench], [("one",), ("one", "three", "two"), True])
        bench.undo(many=4)
        self.same([bench.lines, twin.changes, twin.undo(many=4)[1]], [("level 11",), 4, ()])
        with bench.trial():
            again = bench.twin()
            bench.put("last", SOME)
        again.put("x", SOME)
        self.same([bench.names, again.names], [(), ("x",)])


class Objects(Case):
    def test_full(self):
        bench = Bench(11)
        for name in "abcdef":
            bench.put(name, SOME)
        self.refused_with(TooMany, "limit", 6, bench.put, "g", SOME)
        self.refused_with(TooMany, "limit", 6, bench.draw, "g", (0, 1), (1, 0))
        self.refused_with(TooMany, "limit", 6, bench.blend, "g", "a", "b")
        # Each of their own errors stands ahead.
        self.refused(InvalidOperation, bench.put, "a", SOME)
        self.refused(InvalidOperation, bench.put, "g", TWELVE.zero)
        self.refused(InvalidSum, bench.put, "g", 5)
        self.refused(InvalidFraction, bench.draw, "g", (0, 1), (2, 2))
        self.refused_with(UnknownName, "name", "x", bench.blend, "g", "a", "x")
        self.refused_with(InvalidCount, "value", True, bench.blend, "g", "a", "b", times=True)
        pledges = [("closed", name) for name in "abcdef"] + [("staying", name) for name in "abcd"]
        for pledge in pledges:
            bench.demand(pledge)
        self.same([bench.pledges, len(bench), bench.changes], [tuple(pledges), 10, 16])
        self.refused_with(TooMany, "limit", 10, bench.demand, ("staying", "e"))
        self.refused_with(TooMany, "limit", 10, bench.demand, ("closed", "x"))
        self.refused(InvalidOperation, bench.demand, ("closed", "a"))
        self.refused(InvalidOperation, bench.demand, ("closed", 5))

    def test_level_and_names(self):
        for level in (1, 2, 11, 60, 97, 100):
            bench = Bench(level)
            self.same([bench.level, bench.names, bench.lines, bench.pledges, bench.changes, len(bench), str(bench)],
                      [level, (), (f"level {level}",), (), 0, 0, f"bench of level {level} with 0 sums, 0 pledges"])
        bench = Bench(11)
        for name in ("zz", "a", "aa", "mm", "abcdefgh"):
            bench.put(name, SOME)
        self.same(bench.names, ("a", "aa", "abcdefgh", "mm", "zz"))
        self.same(bench.lines, ("level 11",) + tuple(f"sum {name}: 1*(1, 2)" for name in bench.names))
        self.assertEqual([line for line in bench], list(bench.lines))
        self.same(bench.rename({"zz": "b", "a": "zz", "aa": "aa", "mm": "a", "abcdefgh": "c"}),
                  (("sum abcdefgh: 1*(1, 2)", "sum mm: 1*(1, 2)"), ("sum b: 1*(1, 2)", "sum c: 1*(1, 2)")))

    def test_contained(self):
        bench = Bench(11)
        bench.put("one", SOME)
        bench.demand(("value", "one", 1, "one"))
        for value in ("level 11", "sum one: 1*(1, 2)", ("value", "one", 1, "one")):
            self.assertIs(value in bench, True)
        for value in NO_PLEDGES + PLEDGES + (
                "level 12", "sum one: 1*(1, 3)", "one", ("value", "one", True, "one"), ["value", "one", 1, "one"],
                "sum one:", ("level 11",), bench, SOME):
            self.assertIs(value in bench, False)

    def test_equal(self):
        bench, other = Bench(11), Bench(11)
        self.assertTrue(bench == other)
        bench.put("one", SOME)
        self.assertTrue(bench != other)
        other.put("two", SOME)
        self.assertTrue(bench != other)
        other.rename({"two": "one"})
        # The changes do not matter.
        self.assertTrue(bench == other)
        other.do("one", 2)
        self.assertTrue(bench != other)
        other.undo()
        bench.demand(("closed", "one"))
        self.assertTrue(bench != other)
        other.demand(("staying", "one"))
        other.demand(("closed", "one"))
        bench.demand(("staying", "one"))
        self.assertTrue(bench != other)
        other.waive(("staying", "one"))
        other.demand(("staying", "one"))
        self.assertTrue(bench == other)
        self.assertTrue(Bench(11) != Bench(12))
        for value in NO_INTEGERS + (0, 11, "bench of level 11 with 0 sums, 0 pledges", ELEVEN, ("level 11",)):
            self.assertEqual((Bench(11) == value, Bench(11) != value), (False, True))

    def test_names_listed(self):
        for name in ("level", "names", "lines", "pledges", "changes"):
            self.assertRaises(AttributeError, setattr, Bench(11), name, 5)
            self.assertIn(name, vars(Bench))
        for name in ("put", "draw", "blend", "do", "drop", "turn", "rename", "demand", "waive", "undo", "redo", "trial",
                     "during", "twin", "sum_named", "__contains__", "__len__", "__iter__", "__eq__", "__str__"):
            self.assertIn(name, vars(Bench))

    def test_nothing_shared(self):
        bench = Bench(11)
        bench.put("one", SOME)
        names = {"one": "two"}
        bench.rename(names)
        names["one"] = "three"
        self.same([bench.names, names], [("two",), {"one": "three"}])
        self.assertEqual(SOME, ELEVEN.symbol(1, 2))


class Refusing(Case):
    def test_levels(self):
        for level in NO_LEVELS:
            self.refused(InvalidLevel, Bench, level)

    def test_new_names(self):
        bench = Bench(11)
        bench.put("one", SOME)
        for value in NO_NAMES + ("one",):
            self.refused(InvalidOperation, bench.put, value, SOME)
            self.refused(InvalidOperation, bench.put, value, None)
            self.refused(InvalidOperation, bench.draw, value, (0, 1), (1, 0))
            self.refused(InvalidOperation, bench.draw, value, None, None)
            self.refused(InvalidOperation, bench.blend, value, "one", "one", times=2)
            self.refused(InvalidOperation, bench.blend, value, None, None, times=None)

    def test_sums(self):
        bench = Bench(11)
        for value in NO_SUMS:
            self.refused(InvalidSum, bench.put, "one", value)
        for level in (1, 12, 22, 100):
            self.refused(InvalidOperation, bench.put, "one", Space(level).zero)
        self.same(bench.put("one", Space(11).symbol(1, 2)), ((), ("sum one: 1*(1, 2)",)))

    def test_fractions(self):
        bench = Bench(11)
        for value in NO_FRACTIONS:
            self.refused(InvalidFraction, bench.draw, "one", value, (1, 0))
            self.refused(InvalidFraction, bench.draw, "one", (1, 0), value)
        self.same(bench.changes, 0)

    def test_known_names(self):
        bench = Bench(11)
        bench.put("one", SOME)
        for value in NO_NAMES + ("two", "a"):
            self.refused_with(UnknownName, "name", value, bench.blend, "three", value, "one")
            self.refused_with(UnknownName, "name", value, bench.blend, "three", "one", value)
            self.refused_with(UnknownName, "name", value, bench.blend, "three", value, None, times=None)
            self.refused_with(UnknownName, "name", value, bench.blend, "three", "one", value, times=None)
            self.refused_with(UnknownName, "name", value, bench.do, value, 2)
            self.refused_with(UnknownName, "name", value, bench.do, value, 0)
            for call in (bench.turn, bench.drop, bench.sum_named):
                self.refused_with(UnknownName, "name", value, call, value)

    def test_counts(self):
        bench = Bench(11)
        bench.put("one", SOME)
        for value in NO_INTEGERS:
            self.refused_with(InvalidCount, "value", value, bench.blend, "two", "one", "one", times=value)
        for value in NO_INTEGERS + (0, -1, 61, SIXTY):
            self.refused_with(InvalidCount, "value", value, bench.do, "one", value)
        for value in NO_MANY:
            self.refused_with(InvalidCount, "value", value, bench.undo, many=value)
            self.refused_with(InvalidCount, "value", value, bench.redo, many=value)
        self.refused_with(NothingToUndo, "wanted", 2, bench.undo, many=2)
        self.refused_with(NothingToUndo, "wanted", 1, bench.redo)
        self.same(bench.blend("two", "one", "one", times=SIXTY), ((), (f"sum two: {SIXTY + 1}*(1, 2)",)))

    def test_renames(self):
        bench = Bench(11)
        bench.put("one", SOME)
        bench.put("two", SOME)
        for value in NO_INTEGERS + (
                {"one": "a"}, {"one": "a", "two": "a"}, {"one": "a", "two": "b", "three": "c"}, {"one": "a", "x": "b"},
                {"one": "a", "two": "B"}, {"one": "a", "two": ""}, {"one": "a", "two": None}, {"one": "a", "two": ["b"]},
                {"one": "a", 2: "b"}, {1: "a", 2: "b"}, [("one", "a"), ("two", "b")], (("one", "a"), ("two", "b")),
                {"one": "a", "two": "abcdefghi"}, {"one": "a", ("two",): "b"}, {"one": {}, "two": {}}):
            self.refused(InvalidOperation, bench.rename, value)
        self.same([Bench(11).rename({}), bench.rename({"two": "one", "one": "two"}), bench.changes],
                  [((), ()), ((), ()), 3])

    def test_pledges(self):
        bench = Bench(11)
        bench.put("one", SOME)
        for value in NO_PLEDGES:
            self.refused(InvalidOperation, bench.demand, value)
            self.refused(InvalidOperation, bench.waive, value)
        bench.demand(("value", "one", 1, "one"))
        self.refused(InvalidOperation, bench.demand, ("value", "one", 1, "one"))
        self.refused(InvalidOperation, bench.demand, ("value", "one", True, "one"))
        self.refused(InvalidOperation, bench.waive, ("value", "one", True, "one"))
        self.refused(InvalidOperation, bench.waive, ("closed", "one"))


if __name__ == "__main__":
    unittest.main()
