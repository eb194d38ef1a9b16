"""[19], and [1]: whatever letters are lost, doubled or late, and whoever falls."""

import unittest
from random import Random

from mastcalls.cores import Core, core_of
from mastcalls.ends import End
from mastcalls.errors import BadCut, BadName
from mastcalls.journals import deeds_in
from mastcalls.masts import Mast
from mastcalls.worlds import World
from tests.rows import Row

START = (("mast", "b", 1), ("mast", "a", 1), ("begin", "ben", 1), ("begin", "ann", 2))


def world_of(deeds):
    world = World()
    for deed in deeds:
        world.do(deed)
    return world


def seated_world():
    """Ann on mast a, in epoch 1, and a list that came."""
    world = world_of(START + (("hear", "ann", 1, ("a",)),))
    world.sync()
    world.deliver(0, False)
    return world


def words_of(world):
    """All that the ends of a world hold."""
    return [(end.out, end.answered, end.told, end.epoch) for table in (world.phones, world.ends)
            for end in table.values()]


class WorldTest(unittest.TestCase):

    def test_at_first(self):
        world = World()
        self.assertEqual((world.masts, world.phones, world.ends, world.letters), ({}, {}, {}, []))
        self.assertEqual((world.journal.text, world.journal.many), ("", 0))

    def test_masts_and_ends_come_to_be(self):
        world = world_of(START)
        self.assertEqual((list(world.masts), list(world.phones), list(world.ends)),
                         (["a", "b"], ["ann", "ben"], ["ann", "ben"]))
        self.assertIsInstance(world.masts["a"], Mast)
        self.assertEqual(world.masts["a"].name, "a")
        self.assertIsInstance(world.phones["ann"], End)
        self.assertIsNot(world.phones["ann"], world.ends["ann"])
        self.assertEqual(world.journal.many, 4)
        self.assertEqual(world.letters, [])

    def test_do_is_the_journals(self):
        world = world_of(START)
        events = world.do(("hear", "ann", 1, ("a",)))
        self.assertEqual(events, (("seat", "ann", "a", 1), ("list", "a", 1, (("ann", 1),))))
        self.assertEqual(world.letters, [])
        for deed, name in ((("mast", "a", 1), "a"), (("begin", "ann", 1), "ann"), (("begin", "Cat", 1), "Cat"),
                           (("mast", "c", -1), -1)):
            with self.assertRaises(BadName) as caught:
                world.do(deed)
            self.assertEqual(caught.exception.name, name)
        self.assertEqual((list(world.masts), list(world.phones), world.journal.many), (["a", "b"], ["ann", "ben"], 5))

    def test_lists_are_sent_once_they_are_settled(self):
        world = world_of(START + (("hear", "ann", 1, ("a",)),))
        world.send_lists()
        self.assertEqual(world.letters, [])
        world.sync()
        self.assertEqual((len(world.letters), world.journal.loose), (1, ""))
        self.assertEqual(world.masts["a"].rows, {})
        world.deliver(0, True)
        self.assertEqual((len(world.letters), world.masts["a"].rows, world.masts["a"].number), (1, {"ann": 1}, 1))
        world.send_lists()
        self.assertEqual(len(world.letters), 3)
        world.sync()
        self.assertEqual(len(world.letters), 3)

    def test_speak(self):
        world = world_of(START)
        world.speak("ann", True, "hi")
        world.speak("ann", False, "ho")
        world.speak("ann", True, "hu")
        self.assertEqual((world.phones["ann"].out, world.ends["ann"].out), (["hi", "hu"], ["ho"]))
        self.assertEqual((world.phones["ben"].out, world.ends["ben"].out), ([], []))

    def test_the_phone_sends_to_all_masts_in_turn(self):
        world = seated_world()
        world.speak("ann", True, "hi")
        world.speak("ann", True, "ho")
        world.send_phone("ann", ("b", "a"))
        one, two = ("frame", 0, "hi", 0), ("frame", 1, "ho", 0)
        self.assertEqual(world.letters, [("radio", "b", "ann", one), ("radio", "b", "ann", two),
                                         ("radio", "a", "ann", one), ("radio", "a", "ann", two)])
        world.deliver(0, False)
        self.assertEqual(len(world.letters), 3)
        world.deliver(1, False)
        self.assertEqual(world.letters[2], ("up", "ann", 1, one))
        world.deliver(1, True)
        self.assertEqual(world.letters[1:], [("radio", "a", "ann", two), ("up", "ann", 1, one), ("up", "ann", 1, two)])
        world.deliver(2, True)
        self.assertEqual((world.ends["ann"].told, world.ends["ann"].epoch, len(world.letters)), (["hi"], 1, 4))
        self.assertEqual(world.phones["ann"].told, [])

    def test_the_far_end_sends_to_the_mast_of_the_call(self):
        world = seated_world()
        world.send_end("ann")
        world.send_end("ben")
        self.assertEqual(world.letters, [("down", "a", "ann", 1, ("frame", None, None, 0))])
        world.lose(0)
        world.speak("ann", False, "hi")
        world.send_end("ann")
        frame = ("frame", 0, "hi", 0)
        world.deliver(0, False)
        self.assertEqual(world.letters, [("air", "ann", 1, frame)])
        world.deliver(0, False)
        self.assertEqual((world.phones["ann"].told, world.phones["ann"].epoch, world.letters), (["hi"], 1, []))
        self.assertEqual(world.ends["ann"].told, [])

    def test_the_far_end_sends_nothing_while_something_is_loose(self):
        world = seated_world()
        world.do(("tick",))
        world.send_end("ann")
        self.assertEqual(world.letters, [])
        world.sync()
        world.send_end("ann")
        self.assertEqual(len(world.letters), 1)

    def test_up_in_the_epoch_of_the_call_now_alone(self):
        world = seated_world()
        world.speak("ann", True, "hi")
        world.send_phone("ann", ("a",))
        world.deliver(0, False)
        world.do(("hear", "ann", 2, ("b",)))
        world.deliver(0, True)
        self.assertEqual((world.ends["ann"].told, world.ends["ann"].epoch), ([], 0))
        world.do(("hear", "ann", 3, ()))
        world.deliver(0, True)
        self.assertEqual(world.ends["ann"].told, [])
        world.core_falls(0)
        world.deliver(0, True)
        self.assertEqual((world.ends["ann"].told, world.ends["ann"].epoch), (["hi"], 1))
        world.do(("end", "ann"))
        world.deliver(0, False)
        self.assertEqual(world.ends["ann"].told, ["hi"])

    def test_frames_of_old_epochs_are_not_led_down(self):
        world = seated_world()
        world.speak("ann", False, "hi")
        world.send_end("ann")
        world.do(("hear", "ann", 2, ()))
        world.do(("hear", "ann", 3, ("a",)))
        world.sync()
        while len(world.letters) > 1:
            world.deliver(1, False)
        self.assertEqual(world.masts["a"].rows, {"ann": 2})
        world.deliver(0, False)
        self.assertEqual((world.letters, world.phones["ann"].told), ([], []))

    def test_lose(self):
        world = world_of(START)
        world.send_phone("ann", ("a", "b"))
        world.lose(0)
        self.assertEqual(world.letters, [("radio", "b", "ann", ("frame", None, None, 0))])

    def test_falls(self):
        world = seated_world()
        world.mast_falls("a")
        self.assertEqual((world.masts["a"].rows, world.masts["a"].number), ({}, 1))
        self.assertEqual(world.journal.core.seats_now(), {"ann": "a"})
        world.do(("begin", "cat", 1))
        world.do(("tick",))
        loose = world.journal.loose
        with self.assertRaises(BadCut) as caught:
            world.core_falls(len(loose) + 1)
        self.assertEqual(caught.exception.place, len(loose) + 1)
        with self.assertRaises(BadCut):
            world.core_falls(True)
        self.assertEqual(world.journal.loose, loose)
        world.core_falls(len("5 begin cat 1 5\n") + 3)
        self.assertEqual((world.journal.many, world.journal.loose, world.journal.core.time), (6, "", 0))
        self.assertIn("cat", world.journal.core.lines)

    def test_what_was_begun_again_has_its_old_ends_and_mast(self):
        world = World()
        world.do(("mast", "a", 1))
        world.do(("begin", "ann", 1))
        world.speak("ann", True, "hi")
        mast, phone, end = world.masts["a"], world.phones["ann"], world.ends["ann"]
        world.core_falls(0)
        world.speak("ann", False, "ho")
        world.send_phone("ann", ("a",))
        world.mast_falls("a")
        self.assertEqual((world.journal.many, list(world.masts), list(world.phones)), (0, ["a"], ["ann"]))
        world.do(("begin", "ann", 5))
        world.do(("mast", "a", 3))
        self.assertIs(world.masts["a"], mast)
        self.assertIs(world.phones["ann"], phone)
        self.assertIs(world.ends["ann"], end)
        world.do(("hear", "ann", 0, ("a",)))
        for _ in range(5):
            world.quiet("ann")
        self.assertEqual((end.told, phone.told, phone.answered, end.answered), (["hi"], ["ho"], 1, 1))


class WrongNamesTest(unittest.TestCase):

    def check(self, name, call, *arguments):
        with self.assertRaises(BadName) as caught:
            call(*arguments)
        self.assertIs(caught.exception.name, name)

    def test_calls_that_never_began(self):
        world = seated_world()
        was, letters = words_of(world), list(world.letters)
        for call in ("cat", "a", "", "Ann", None, 1, ["ann"]):
            self.check(call, world.speak, call, True, "hi")
            self.check(call, world.speak, call, False, "hi")
            self.check(call, world.send_phone, call, ("a",))
            self.check(call, world.send_phone, call, ("q",))
            self.check(call, world.send_end, call)
            world.do(("tick",))
            self.check(call, world.send_end, call)
            self.check(call, world.quiet, call)
        self.assertNotEqual(world.journal.loose, "")
        self.assertEqual((words_of(world), world.letters), (was, letters))

    def test_masts_that_never_were(self):
        world = seated_world()
        for mast in ("c", "ann", "", None, 1, ["a"]):
            self.check(mast, world.send_phone, "ann", ("a", mast, "q"))
            self.check(mast, world.mast_falls, mast)
        self.assertEqual(world.letters, [])

    def test_places_of_letters_that_are_not_there(self):
        world = seated_world()
        for many in range(3):
            for at in (-1, many, many + 1, True, False, None, "0", (0,)):
                self.check(at, world.deliver, at, False)
                self.check(at, world.deliver, at, True)
                self.check(at, world.lose, at)
            self.assertEqual(len(world.letters), many)
            world.send_phone("ann", ("a",))


class Fuzz:
    """A world to which anything happens, and looks at it behind each thing."""

    def __init__(self, test, seed):
        self.test = test
        self.random = Random(seed)
        self.row = Row(seed)
        self.world = World()
        self.settled = Core()
        self.many = 0
        self.given = {}
        self.epochs = {}
        self.words = 0

    def step(self):
        """One thing happens."""
        world, random = self.world, self.random
        draw = random.random()
        if draw < 0.1:
            self.do()
        elif draw < 0.2:
            world.sync()
        elif draw < 0.23:
            world.send_lists()
        elif draw < 0.24 and world.masts:
            world.mast_falls(random.choice(list(world.masts)))
        elif draw < 0.26:
            self.core_falls()
        elif draw < 0.46 and world.phones:
            self.send()
        elif draw < 0.47 and world.phones:
            world.quiet(random.choice(list(world.phones)))
        elif world.letters:
            at = random.choice([0, random.randrange(len(world.letters))])
            if random.random() < 0.2:
                world.lose(at)
            else:
                world.deliver(at, random.random() < 0.2)
        self.look()

    def do(self):
        core = self.world.journal.core
        deed = self.row.next_deed(core)
        again = [call for call in self.world.phones if call not in core.lines and call not in core.gone]
        if again and deed[0] == "begin":
            deed = ("begin", self.random.choice(again), 1)
        self.world.do(deed)

    def core_falls(self):
        """At any cut: what comes up is a beginning of the deeds, with all settled ones."""
        journal = self.world.journal
        cut = self.random.randint(0, len(journal.loose))
        text, loose = journal.text, journal.loose
        self.world.core_falls(cut)
        late = self.world.journal
        self.test.assertTrue((text + loose).startswith(late.text) and late.text.startswith(text))
        self.test.assertEqual(late.text.count("\n"), text.count("\n") + loose[:cut].count("\n"))

    def send(self):
        seats = self.world.journal.core.seats_now()
        call = self.random.choice(list(seats if seats and self.random.random() < 0.8 else self.world.phones))
        draw = self.random.random()
        if draw < 0.3:
            self.world.speak(call, self.random.random() < 0.5, "w" + str(self.words))
            self.words += 1
        elif draw < 0.65:
            some = [mast for mast in self.world.masts if self.random.random() < 0.7]
            self.world.send_phone(call, tuple(some))
        else:
            self.world.send_end(call)

    def note_epochs(self):
        """For which call, and on which mast, epochs were given by settled deeds."""
        deeds, _ = deeds_in(self.world.journal.text)
        for deed in deeds[self.many:]:
            for event in self.settled.do(deed):
                if event[0] == "seat":
                    self.test.assertNotIn(event[3], self.given)
                    self.given[event[3]] = (event[1], event[2])
        self.many = len(deeds)

    def look(self):
        """What must hold at every moment."""
        world, test = self.world, self.test
        self.note_epochs()
        for call in world.phones:
            for one, other in ((world.phones[call], world.ends[call]), (world.ends[call], world.phones[call])):
                test.assertEqual(one.told, other.out[:len(one.told)])
                test.assertLessEqual(one.answered, len(other.told))
                test.assertGreaterEqual(one.epoch, self.epochs.get((call, one is world.ends[call]), 0))
                self.epochs[call, one is world.ends[call]] = one.epoch
        for mast in world.masts:
            rows = world.masts[mast].rows
            test.assertLessEqual(len(rows), world.journal.core.channels.get(mast, 0))
            for call, epoch in rows.items():
                test.assertEqual(self.given[epoch], (call, mast))
        for call in world.phones:
            for end in (world.phones[call], world.ends[call]):
                if end.epoch:
                    test.assertEqual(self.given[end.epoch][0], call)


class FuzzTest(unittest.TestCase):

    def test_at_every_moment(self):
        told, epochs = 0, 0
        for seed in range(400):
            fuzz = Fuzz(self, seed)
            for _ in range(300):
                fuzz.step()
            told += sum(len(end.told) for end in list(fuzz.world.phones.values()) + list(fuzz.world.ends.values()))
            epochs += fuzz.world.journal.core.epoch
        self.assertTrue(told > 500 and epochs > 500, (told, epochs))

    def test_quiet_rounds_bring_all_words(self):
        looked = 0
        for seed in range(400):
            fuzz = Fuzz(self, seed)
            for _ in range(120):
                fuzz.step()
            world, random = fuzz.world, fuzz.random
            seats = world.journal.core.seats_now()
            if not seats:
                continue
            call = random.choice(list(seats))
            for _ in range(random.randint(0, 12)):
                world.speak(call, random.random() < 0.5, "more")
            if random.random() < 0.5:
                world.mast_falls(seats[call])
            phone, end = world.phones[call], world.ends[call]
            most = max(len(one.out) - one.answered for one in (phone, end))
            for _ in range(2 * ((most + 2) // 3) + 3):
                world.quiet(call)
                self.assertEqual((world.letters, world.journal.loose), ([], ""))
            self.assertEqual((phone.told, end.told), (end.out, phone.out))
            self.assertEqual((phone.answered, end.answered), (len(phone.out), len(end.out)))
            looked += 1
        self.assertGreater(looked, 100)

    def test_a_quiet_round(self):
        world = world_of(START + (("hear", "ann", 1, ("a",)),))
        world.speak("ann", True, "hi")
        world.speak("ann", False, "ho")
        world.quiet("ann")
        self.assertEqual((world.journal.loose, world.letters), ("", []))
        self.assertEqual((world.phones["ann"].told, world.ends["ann"].told), (["ho"], ["hi"]))
        self.assertEqual((world.phones["ann"].answered, world.ends["ann"].answered), (0, 0))
        world.quiet("ann")
        self.assertEqual((world.phones["ann"].answered, world.ends["ann"].answered), (1, 1))

    def test_a_quiet_round_of_who_has_no_seat(self):
        world = world_of(START + (("hear", "ann", 1, ("a",)),))
        world.speak("ben", True, "hi")
        world.send_phone("ben", ("a",))
        world.quiet("ben")
        self.assertEqual((world.journal.loose, world.letters, world.ends["ben"].told), ("", [], []))
        self.assertEqual(world.masts["a"].rows, {"ann": 1})

    def test_a_quiet_round_sends_to_its_mast_alone(self):
        world = world_of((("mast", "a", 1), ("mast", "b", 1), ("begin", "ann", 1), ("hear", "ann", 1, ("a",))))
        world.sync()
        world.masts["b"].take(9, (("ann", 1),))
        world.masts["a"].take(9, ())
        world.speak("ann", True, "hi")
        world.quiet("ann")
        self.assertEqual(world.ends["ann"].told, [])

    def test_the_core_behind_the_journal(self):
        for seed in range(20):
            fuzz = Fuzz(self, seed)
            for _ in range(100):
                fuzz.step()
            journal = fuzz.world.journal
            deeds, _ = deeds_in(journal.text + journal.loose)
            self.assertEqual(len(deeds), journal.many)
            self.assertEqual(core_of(deeds).value(), journal.core.value())
