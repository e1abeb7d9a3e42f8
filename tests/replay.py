"""A log gone through by itself: handles by point 10, and what is alive, owned and held by whom."""


class Table:
    """Handles by the words of point 10, at leisure."""

    def __init__(self):
        self.begun = {}
        self.alive = {}

    def begin(self, thing, owned):
        place = min(one for one in range(len(self.alive) + 1) if one not in [handle[0] for handle in self.alive])
        turn = self.begun.get(place, 0)
        self.begun[place] = turn + 1
        self.alive[(place, turn)] = (thing, owned)
        return (place, turn)


class Replay:
    """Goes through a log, and fails where it tells what cannot be."""

    def __init__(self, test, pacts, log):
        self.test = test
        self.pacts = pacts
        self.tables = (Table(), Table())
        self.outside = set()
        self.open = []
        self.lent = {}
        self.made = 0
        self.entered = 0
        self.freed = []
        self.broken = False
        for entry in log:
            getattr(self, "do_" + entry[0])(*entry[1:])
        if not self.broken:
            test.assertEqual(self.open, [])
        test.assertEqual(len(self.freed), len(set(self.freed)))

    def table(self, call):
        return self.tables[dict(self.open)[call]]

    def live(self, call, handle, thing, *, owned=False):
        told = self.table(call).alive[handle]
        self.test.assertEqual(told[0], thing)
        if owned:
            self.test.assertTrue(told[1])

    def end(self, call, handle, thing):
        self.live(call, handle, thing, owned=True)
        # Nothing is freed, given or ended while it is lent to an open call.
        if not self.broken:
            for table in self.tables:
                self.test.assertNotIn((thing, False), table.alive.values())
        del self.table(call).alive[handle]

    def begin(self, call, new, thing, owned):
        self.test.assertEqual(new, self.table(call).begin(thing, owned))

    def last(self, call):
        self.test.assertEqual(call, self.open[-1][0] if self.open else 0)

    def take_from(self, call, handle, thing):
        self.last(call)
        if call == 0:
            self.test.assertIsNone(handle)
            self.outside.remove(thing)
        else:
            self.end(call, handle, thing)

    def give_to(self, call, new, thing):
        self.last(call)
        if thing is None:
            self.test.assertIsNone(new)
        elif call == 0:
            self.test.assertIsNone(new)
            self.outside.add(thing)
        else:
            self.begin(call, new, thing, True)

    def over(self, call):
        self.last(call)
        for handle in self.lent.pop(call):
            del self.table(call).alive[handle]
        self.open.pop()

    def do_made(self, call, handle, thing):
        self.test.assertEqual(thing, self.made)
        self.made += 1
        self.give_to(call, handle, thing)

    def do_used(self, call, handle, thing):
        self.last(call)
        self.live(call, handle, thing)

    def do_freed(self, call, handle, thing):
        self.freed.append(thing)
        if self.broken and handle is None:
            self.outside.discard(thing)
        elif self.broken or (call == 0 and handle is not None):
            tables = self.tables if call == 0 else [self.table(call)]
            holding = [table for table in tables if table.alive.get(handle) == (thing, True)]
            del holding[0].alive[handle]
        else:
            self.take_from(call, handle, thing)

    def do_entered(self, call, name, by):
        self.last(by)
        self.entered += 1
        self.test.assertEqual(call, self.entered)
        self.lent[call] = []
        self.by = by
        self.open.append((call, self.pacts.pact(name)[1]))

    def do_lent(self, by, handle, thing, call, new):
        self.test.assertEqual((by, call), (self.by, self.open[-1][0]))
        if by == 0:
            self.test.assertIn(thing, self.outside)
        else:
            self.live(by, handle, thing)
        self.begin(call, new, thing, False)
        self.lent[call].append(new)

    def do_gave(self, by, handle, thing, call, new):
        if by == 0:
            self.outside.remove(thing)
        else:
            self.live(by, handle, thing, owned=True)
            del self.table(by).alive[handle]
        self.begin(call, new, thing, True)

    def do_ended(self, call, word, handle, thing):
        self.last(call)
        if thing is None:
            self.test.assertIsNone(handle)
        else:
            self.live(call, handle, thing, owned=True)
            del self.table(call).alive[handle]
        self.over(call)

    def do_passed(self, call, word):
        self.over(call)

    def do_got(self, call, new, thing):
        self.give_to(call, new, thing)

    def do_caught(self, call, word, new, thing):
        self.give_to(call, new, thing)

    def do_broke(self, call, reason):
        self.last(call)
        self.broken = True

