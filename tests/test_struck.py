"""Gates that are struck and found again, the wish being kept: all parts of the package together."""

import random

from holegates import ladders, single, unlike
from holegates.check_forms import shows_faithful, shows_sound
from holegates.check_ladders import shows_plan
from holegates.check_single import shows_between
from holegates.check_unlike import shows_settled
from holegates.errors import HoleError, TooMany
from holegates.forms import Faithful, Sound, comes_of, faithful, form_of, sound
from holegates.freerows import free_rows
from holegates.ladders import Plan, plan
from holegates.leastbars import fewest_rows
from holegates.mends import mend, mendable, mendable_by_all
from holegates.nets import Net
from holegates.sights import Enough, apart, enough, needed, tight_sights
from holegates.single import between, free_views, number_of, table_at
from holegates.tables import follows
from holegates.tasks import Task
from holegates.unlike import Settled, settle
from holegates.wires import Alike, column, same_wire
from tests.support import Told, drawn_ladder, drawn_wish, right_nets, settings

RIGHT = right_nets(120, 181)


def table_in(net, name, sources):
    """The table of these sources that tells what the wire is, 0 at settings that no row brings; None if none does."""
    told = {}
    for setting, sign in zip(zip(*[drawn_wish(net, source, {}) for source in sources]), drawn_wish(net, name, {})):
        if told.setdefault(setting, sign) != sign:
            return None
    if not sources:
        signs = set(drawn_wish(net, name, {}))
        return tuple(signs) if len(signs) == 1 else None
    return tuple(told.get(setting, 0) for setting in settings(len(sources)))


def struck_some(chooser, net, many):
    """The net with some gates struck, and the tables that tell what they were; fewer, if no more can be."""
    found, tables = net, {}
    for name in chooser.sample([gate[0] for gate in net.gates], min(many, len(net.gates))):
        own = net.sources(name)
        ahead = [wire for wire in net.wires[:net.wires.index(name)] if found.is_sure(wire)]
        some = chooser.sample(ahead, chooser.randint(0, min(3, len(ahead))))
        for sources in chooser.sample([own, some, net.inputs], 3):
            table = table_in(net, name, sources)
            if table is None:
                continue
            try:
                found = found.struck(name, sources)
            except HoleError:
                continue
            tables[name] = table
            break
    return found, tuple(tables[name] for name in found.holes)


def all_struck(seed):
    """Right nets, the tasks with one, two or three of their gates struck, and what stood there."""
    chooser = random.Random(seed)
    for net, wish in RIGHT:
        for many in (1, 2, 3):
            found, stood = struck_some(chooser, net, many)
            if found.holes:
                yield net, Task(found, wish), stood


class WhatStoodThere(Told):
    def test_it_is_right(self):
        many = [0, 0, 0, 0]
        for net, task, stood in all_struck(182):
            many[len(task.holes)] += 1
            self.assertIs(task.is_right(stood), True)
            self.assertEqual(same_wire(net, task.filled(stood), task.wish), Alike())
            self.assert_same(task.plain(stood), stood)
        self.assertGreater(min(many[1:]), 30)

    def test_one_gate_lies_between(self):
        for net, task, stood in all_struck(183):
            if len(task.holes) == 1:
                paper = between(task)
                self.assertTrue(follows(paper.least, stood[0]))
                self.assertTrue(follows(stood[0], paper.greatest))
                self.assert_same(table_at(task, number_of(task, stood[0])), stood[0])
                self.assertTrue(task.is_right([paper.least]))
                self.assertTrue(task.is_right([paper.greatest]))
                self.assertEqual(mend(net, task.wish, task.holes[0], task.sights[0]), paper)
                self.assertIs(shows_between(task, paper), True)
                self.assertTrue(enough(task, task.sights[0]))
                self.assertEqual(enough(task, task.sights[0]), Enough(paper.least))

    def test_free_rows_are_the_views_that_nobody_wants_anything_of(self):
        for net, wish in RIGHT:
            for name, sources, table in net.gates:
                task = Task(net.struck(name), wish)
                seen = {task.view(0, row) for row in range(task.many)}
                free = set(free_views(task)) | set(range(len(table))) - seen
                self.assert_same(free_rows(net, wish, name), tuple(sorted(free)))

    def test_all_gates_of_a_right_net_can_be_put_anew(self):
        for net, wish in RIGHT:
            names = tuple(name for name, _, _ in net.gates)
            self.assert_same(mendable(net, wish), names)
            self.assert_same(mendable_by_all(net, wish), names)
            for name, _, _ in net.gates:
                least, greatest = mend(net, wish, name, net.inputs).parts
                self.assertTrue(follows(least, column(net, name)) and follows(column(net, name), greatest))

    def test_nested_sights(self):
        many = 0
        for _, task, stood in all_struck(184):
            if drawn_ladder(task) is None:
                continue
            many += 1
            self.assertIs(type(plan(task)), Plan)
            self.assertIs(shows_plan(task, Plan(stood)), True)
            try:
                form = form_of(task)
            except TooMany:
                continue
            self.assert_same(comes_of(task, form, stood), stood)
            self.assertEqual((sound(task, form), faithful(task, form)), (Sound(), Faithful()))
            self.assertIs(shows_sound(task, form, Sound()) and shows_faithful(task, form, Faithful()), True)
        self.assertGreater(many, 100)

    def test_any_sights(self):
        for _, task, stood in all_struck(185):
            try:
                paper = settle(task)
            except TooMany:
                continue
            self.assertIs(type(paper), Settled)
            self.assertIs(shows_settled(task, Settled(stood)), True)
            if task.many <= 8:
                self.assertIsNone(fewest_rows(task))


class WhatIsTold(Told):
    def test_put_in_it_leaves_the_wished_wire_alike(self):
        for net, task, _ in all_struck(186):
            for filling in self.told_fillings(task):
                whole = task.filled(filling)
                self.assertEqual(same_wire(net, whole, task.wish), Alike())
                self.assert_same(Task(whole, task.wish).first_wrong(()), None)

    def told_fillings(self, task):
        found = []
        for call in (settle, plan):
            try:
                found.append(call(task).filling)
            except HoleError:
                pass
        if len(task.holes) == 1:
            found += [[table] for table in between(task).parts]
            found += [[table_at(task, number)] for number in range(min(4, single.how_many(task)))]
        return found

    def test_all_parts_tell_the_same_number(self):
        for _, task, _ in all_struck(187):
            try:
                many = unlike.how_many(task)
            except TooMany:
                continue
            self.assertGreater(many, 0)
            if drawn_ladder(task) is not None:
                self.assertEqual(ladders.how_many(task), many)
            if len(task.holes) == 1:
                self.assertEqual(single.how_many(task), many)

    def test_tight_lots_make_the_hole_fillable(self):
        for net, task, _ in all_struck(188):
            if len(task.holes) != 1:
                continue
            name = task.holes[0]
            wires = [wire for wire in net.wires[:net.wires.index(name)] if task.net.is_sure(wire)][:8]
            lots = tight_sights(task, wires)
            self.assertTrue(lots)
            for lot in lots:
                if len(lot) <= 6:
                    self.assertTrue(mend(net, task.wish, name, lot))
                    for left in lot:
                        self.assertFalse(mend(net, task.wish, name, [wire for wire in lot if wire != left]))
            for wire in needed(task, wires):
                self.assertFalse(enough(task, [other for other in wires if other != wire]))
            self.assertEqual(not apart(task), lots == ((),))


class WithGatesStruck(Told):
    def test_struck_and_put_back_it_is_the_same_net(self):
        for net, wish in RIGHT:
            for name, sources, table in net.gates:
                self.assertEqual(net.struck(name).put(name, table), net)
                wide = net.struck(name, net.inputs).put(name, column(net, name))
                self.assertEqual(same_wire(wide, net, wish), Alike())
                self.assertEqual(same_wire(wide, Net.read(str(net)), name), Alike())
