import unittest
from itertools import product as all_lists
from random import Random

from cloak.errors import BadForm, CloakError, Down, Full, NotAllowed
from cloak.purse import EPOCHS, MAX_HELD, Purse, Register, load_purse
from helpers import ErrorCase

NO_EPOCHS = (-1, 3, 4, -3, 10 ** 30, -10 ** 30)


def ticket_at(n):
    """A ticket of its own for each n, and its blinding."""
    return (n, 2, 3, 4, 5, 6), (7, 8, 9, (10, 11, 12, 13))


def put(purse, epoch, n):
    return purse.put(epoch, *ticket_at(n))


def purse_with(counter, *rows):
    """A purse into which tickets (epoch, n) were put."""
    purse = Purse(counter)
    for epoch, n in rows:
        put(purse, epoch, n)
    return purse


def taken(purse, epoch):
    """The n of the ticket that is given out, or the name of the error."""
    try:
        ticket, blinding = purse.take(epoch)
    except CloakError as error:
        return type(error).__name__
    assert (ticket, blinding) == ticket_at(ticket[0])
    return ticket[0]


def numbers_in(purse):
    """The (epoch, number, n) of all tickets, as the image tells them."""
    if purse.image() == "":
        return []
    words = [part.split(" ") for part in purse.image().split(";")]
    return [(int(word[1]), int(word[2]), int(word[3])) for word in words]


class RegisterTest(ErrorCase):

    def counts(self, counter):
        return [counter.count(epoch) for epoch in range(3)]

    def test_counts_are_0_at_first_and_are_raised_apart(self):
        self.assertEqual(EPOCHS, 3)
        counter = Register()
        self.assertEqual(self.counts(counter), [0, 0, 0])
        self.assertIsNone(counter.raise_to(0, 1))
        counter.raise_to(2, 10 ** 30)
        self.assertEqual(self.counts(counter), [1, 0, 10 ** 30])
        counter.raise_to(0, 5)
        counter.raise_to(1, 2)
        self.assertEqual(self.counts(counter), [5, 2, 10 ** 30])

    def test_no_end_of_power_at_first(self):
        counter = Register()
        for count in range(1, 500):
            counter.raise_to(1, count)
        self.assertEqual(self.counts(counter), [0, 499, 0])

    def test_epochs(self):
        counter = Register()
        counter.supply(1)
        for epoch in NO_EPOCHS:
            self.check_raises(NotAllowed, counter.count, epoch)
            for count in (-1, 0, 1, 9):
                self.check_raises(NotAllowed, counter.raise_to, epoch, count)
        counter.supply(0)
        for epoch in NO_EPOCHS:
            self.check_raises(NotAllowed, counter.raise_to, epoch, 1)
        self.assertEqual(self.counts(counter), [0, 0, 0])

    def test_a_count_that_would_not_become_greater(self):
        counter = Register()
        counter.raise_to(1, 3)
        counter.supply(1)
        for count in (3, 2, 1, 0, -1, -10 ** 30):
            self.check_raises(NotAllowed, counter.raise_to, 1, count)
        for count in (0, -1):
            self.check_raises(NotAllowed, counter.raise_to, 0, count)
        # These cost no power.
        counter.raise_to(1, 4)
        self.assertEqual(self.counts(counter), [0, 4, 0])
        self.check_raises(Down, counter.raise_to, 1, 5)
        for count in (4, 3, 0, -1):
            self.check_raises(NotAllowed, counter.raise_to, 1, count)
        self.assertEqual(self.counts(counter), [0, 4, 0])

    def test_supply(self):
        for power in (0, 1, 2, 7):
            counter = Register()
            self.assertIsNone(counter.supply(power))
            for count in range(power):
                self.assertIsNone(counter.raise_to(count % 3, count + 1))
            before = self.counts(counter)
            for epoch in range(3):
                self.check_raises(Down, counter.raise_to, epoch, 100)
            self.assertEqual(self.counts(counter), before)
            counter.supply(1)
            counter.raise_to(2, 100)
            self.assertEqual(self.counts(counter), [*before[:2], 100])
            self.check_raises(Down, counter.raise_to, 2, 101)
            counter.supply(-1)
            for count in range(101, 150):
                counter.raise_to(2, count)

    def test_supply_sets_the_power_and_adds_nothing(self):
        counter = Register()
        counter.supply(5)
        counter.supply(1)
        counter.raise_to(0, 1)
        self.check_raises(Down, counter.raise_to, 0, 2)
        counter.supply(2)
        counter.supply(0)
        self.check_raises(Down, counter.raise_to, 0, 2)

    def test_supply_that_is_not_allowed_changes_nothing(self):
        counter = Register()
        counter.supply(1)
        for raises in (-2, -3, -10 ** 30):
            self.check_raises(NotAllowed, counter.supply, raises)
        counter.raise_to(0, 1)
        self.check_raises(Down, counter.raise_to, 0, 2)
        self.check_raises(NotAllowed, counter.supply, -2)
        self.check_raises(Down, counter.raise_to, 0, 2)

    def test_two_beside_one_another(self):
        first, second = Register(), Register()
        first.supply(0)
        second.raise_to(0, 4)
        self.assertEqual([self.counts(first), self.counts(second)], [[0, 0, 0], [4, 0, 0]])
        self.check_raises(Down, first.raise_to, 0, 1)


class PurseTest(ErrorCase):

    def test_numbers_ahead_of_a_take(self):
        purse = purse_with(Register(), (0, 1), (0, 2), (2, 3), (0, 4), (2, 5), (1, 6))
        self.assertEqual(numbers_in(purse), [(0, 0, 1), (0, 1, 2), (2, 0, 3), (0, 2, 4), (2, 1, 5),
                                             (1, 0, 6)])

    def test_numbers_behind_a_take(self):
        counter = Register()
        purse = purse_with(counter, (0, 1), (0, 2))
        self.assertEqual(taken(purse, 0), 1)
        put(purse, 0, 3)
        self.assertEqual(numbers_in(purse), [(0, 0, 1), (0, 1, 2), (0, 2, 3)])
        self.assertEqual([taken(purse, 0), taken(purse, 0)], [2, 3])
        put(purse, 0, 4)
        put(purse, 1, 5)
        self.assertEqual(numbers_in(purse)[3:], [(0, 3, 4), (1, 0, 5)])
        self.assertEqual(counter.count(0), 3)

    def test_numbers_begin_with_the_count_of_the_register(self):
        counter = Register()
        counter.raise_to(1, 40)
        purse = purse_with(counter, (1, 1), (0, 2), (1, 3))
        self.assertEqual(numbers_in(purse), [(1, 40, 1), (0, 0, 2), (1, 41, 3)])
        counter.raise_to(1, 90)
        put(purse, 1, 4)
        self.assertEqual(numbers_in(purse)[3:], [(1, 90, 4)])
        self.assertEqual([purse.left(0), purse.left(1)], [1, 1])
        self.assertEqual(taken(purse, 1), 4)
        self.assertEqual(counter.count(1), 91)

    def test_take_gives_out_tickets_in_their_order(self):
        purse = purse_with(Register(), (0, 1), (1, 2), (0, 3), (0, 4))
        self.assertEqual(purse.take(0), ticket_at(1))
        self.assertIs(type(purse.take(1)), tuple)
        self.assertEqual([taken(purse, 0), taken(purse, 0), taken(purse, 0)], [3, 4, "Missing"])

    def test_the_least_number_counts_and_no_number_of_a_ticket(self):
        purse = purse_with(Register(), (2, 9), (0, 8), (0, 3), (2, 1), (0, 5))
        self.assertEqual([taken(purse, 0), taken(purse, 2), taken(purse, 0), taken(purse, 0), taken(purse, 2)],
                         [8, 9, 3, 5, 1])

    def test_of_several_with_the_least_number_the_one_that_was_put_first(self):
        # `put` and `load_purse` make no such purse, so its rows are kept as they are.
        counter = Register()
        purse = Purse(counter)
        for number, n in ((7, 1), (4, 2), (9, 3), (4, 4), (7, 5)):
            purse.keep((0, number, *ticket_at(n)))
        self.assertEqual([purse.left(0), taken(purse, 0), counter.count(0)], [5, 2, 5])
        self.assertEqual([purse.left(0), taken(purse, 0), counter.count(0)], [3, 1, 8])
        self.assertEqual([purse.left(0), taken(purse, 0), counter.count(0)], [1, 3, 10])
        self.assertEqual(taken(purse, 0), "Missing")

    def test_take_raises_the_count_to_the_number_plus_1(self):
        counter = Register()
        purse = load_purse(counter, purse_with(Register(), (2, 1), (2, 2)).image()
                           .replace("ticket 2 1 ", "ticket 2 30 "))
        self.assertEqual([taken(purse, 2), counter.count(2)], [1, 1])
        self.assertEqual([taken(purse, 2), counter.count(2)], [2, 31])
        self.assertEqual([counter.count(0), counter.count(1)], [0, 0])

    def test_a_ticket_stays_in_the_purse_when_it_is_taken(self):
        purse = purse_with(Register(), (0, 1), (0, 2))
        image = purse.image()
        purse.take(0)
        self.assertEqual([purse.size(), purse.image(), purse.left(0)], [2, image, 1])
        purse.take(0)
        self.assertEqual([purse.size(), purse.image(), purse.left(0)], [2, image, 0])

    def test_left_and_size(self):
        purse = Purse(Register())
        self.assertEqual([purse.left(0), purse.left(1), purse.left(2), purse.size()], [0] * 4)
        for n in range(5):
            put(purse, n % 2, n)
        self.assertEqual([purse.left(0), purse.left(1), purse.left(2), purse.size()], [3, 2, 0, 5])
        purse.take(0)
        self.assertEqual([purse.left(0), purse.left(1), purse.left(2), purse.size()], [2, 2, 0, 5])

    def test_the_twelfth_and_the_thirteenth_ticket(self):
        self.assertEqual(MAX_HELD, 12)
        counter = Register()
        purse = Purse(counter)
        for n in range(12):
            self.assertIsNone(put(purse, n % 3, n))
        image = purse.image()
        for epoch in range(3):
            self.check_raises(Full, put, purse, epoch, 50)
        for epoch in NO_EPOCHS:
            self.check_raises(NotAllowed, put, purse, epoch, 50)
        self.assertEqual([purse.size(), purse.image()], [12, image])
        # Tickets that were given out make no room.
        purse.take(0)
        self.check_raises(Full, put, purse, 0, 50)

    def test_nothing_usable(self):
        counter = Register()
        purse = purse_with(counter, (0, 1), (2, 2))
        self.assertEqual(taken(purse, 1), "Missing")
        purse.take(0)
        self.assertEqual(taken(purse, 0), "Missing")
        counter.raise_to(2, 1)
        self.assertEqual(taken(purse, 2), "Missing")
        self.assertEqual([counter.count(epoch) for epoch in range(3)], [1, 0, 1])
        counter.supply(0)
        self.assertEqual(taken(purse, 0), "Missing")

    def test_no_power(self):
        counter = Register()
        purse = purse_with(counter, (0, 1), (0, 2))
        counter.supply(0)
        self.assertEqual([taken(purse, 0), taken(purse, 0)], ["Down", "Down"])
        self.assertEqual([purse.left(0), counter.count(0)], [2, 0])
        counter.supply(1)
        self.assertEqual([taken(purse, 0), taken(purse, 0), purse.left(0)], [1, "Down", 1])
        self.assertIsNone(put(purse, 0, 3))

    def test_epochs(self):
        counter = Register()
        purse = purse_with(counter, (0, 1))
        counter.supply(0)
        for epoch in NO_EPOCHS:
            self.check_raises(NotAllowed, put, purse, epoch, 2)
            self.check_raises(NotAllowed, purse.take, epoch)
            self.check_raises(NotAllowed, purse.left, epoch)
        self.assertEqual(purse.size(), 1)

    def test_an_older_image(self):
        counter = Register()
        purse = purse_with(counter, (0, 1), (0, 2))
        image = purse.image()
        put(purse, 0, 3)
        self.assertEqual([taken(purse, 0), taken(purse, 0)], [1, 2])
        old = load_purse(counter, image)
        self.assertEqual([old.size(), old.left(0), taken(old, 0)], [2, 0, "Missing"])
        put(old, 0, 4)
        self.assertEqual(numbers_in(old), [(0, 0, 1), (0, 1, 2), (0, 2, 4)])
        # Both purses have a ticket with the number 2: one of them alone is given out.
        self.assertEqual([taken(old, 0), taken(purse, 0)], [4, "Missing"])

    def test_a_loaded_purse_raises_the_count_for_the_other_one(self):
        counter = Register()
        purse = purse_with(counter, (0, 1), (0, 2), (0, 3))
        copy = load_purse(counter, purse.image())
        self.assertEqual([taken(copy, 0), taken(purse, 0), taken(copy, 0), taken(purse, 0)],
                         [1, 2, 3, "Missing"])

    def test_two_purses_of_one_register(self):
        counter = Register()
        first, second = purse_with(counter, (0, 1), (0, 2)), purse_with(counter, (0, 3), (1, 4))
        self.assertEqual(numbers_in(second), [(0, 0, 3), (1, 0, 4)])
        self.assertEqual([taken(second, 0), first.left(0), taken(first, 0)], [3, 1, 2])
        put(second, 0, 5)
        self.assertEqual(numbers_in(second)[-1], (0, 2, 5))
        self.assertEqual([first.size(), second.size()], [2, 3])

    def test_two_purses_of_two_registers(self):
        first, second = purse_with(Register(), (0, 1)), purse_with(Register(), (0, 1))
        self.assertEqual([taken(first, 0), taken(second, 0)], [1, 1])

    def test_by_the_rules_for_drawn_steps(self):
        for seed in range(40):
            draw, counter, counts = Random(seed), Register(), [0, 0, 0]
            purse, rows = Purse(counter), []
            for step in range(40):
                epoch = draw.randrange(3)
                if draw.randrange(2) and len(rows) < 12:
                    put(purse, epoch, step)
                    numbers = [number for other, number, _ in rows if other == epoch]
                    number = counts[epoch]
                    while any(other >= number for other in numbers):
                        number += 1
                    rows.append((epoch, number, step))
                else:
                    usable = sorted((number, n) for other, number, n in rows
                                    if other == epoch and number >= counts[epoch])
                    self.assertEqual(purse.left(epoch), len(usable))
                    self.assertEqual(taken(purse, epoch), usable[0][1] if usable else "Missing")
                    if usable:
                        counts[epoch] = usable[0][0] + 1
                self.assertEqual(numbers_in(purse), rows)
                self.assertEqual([counter.count(k) for k in range(3)], counts)


class NeverTwiceTest(unittest.TestCase):

    def run_steps(self, steps):
        """The tickets that are given out by steps over the present purse and its images."""
        counter = Register()
        purse, images, out, n = Purse(counter), [""], [], 0
        for step in steps:
            if step == "put" and purse.size() < 12:
                n += 1
                put(purse, 0, n)
            elif step == "take":
                out.append(taken(purse, 0))
            elif step == "save":
                images.append(purse.image())
            elif step == "older":
                purse = load_purse(counter, images[len(images) // 2])
            elif step == "newest":
                purse = load_purse(counter, images[-1])
        return [n for n in out if n != "Missing"]

    def test_all_short_rows_of_steps(self):
        for steps in all_lists(("put", "take", "save", "older", "newest"), repeat=5):
            out = self.run_steps(["put", "save", *steps, "take"])
            self.assertEqual(len(out), len(set(out)), steps)

    def test_drawn_rows_of_steps(self):
        words = ("put", "put", "take", "take", "save", "older", "newest")
        for seed in range(100):
            out = self.run_steps(Random(seed).choices(words, k=60))
            self.assertEqual(len(out), len(set(out)), seed)
            self.assertTrue(out)


class ImageTest(ErrorCase):

    def check_bad(self, text):
        self.check_raises(BadForm, load_purse, Register(), text)

    def test_written_out(self):
        counter = Register()
        purse = Purse(counter)
        self.assertEqual(purse.image(), "")
        purse.put(2, (1, 2, 3, 4, 5, 6), (7, 8, 9, (10, 11, 12, 13)))
        self.assertEqual(purse.image(), "ticket 2 0 1 2 3 4 5 6 7 8 9 10 11 12 13")
        counter.raise_to(0, 17)
        purse.put(0, (2027, 0, 3, 4, 5, 0), (1, 2, 0, (0, 0, 0, 1012)))
        self.assertEqual(purse.image(), "ticket 2 0 1 2 3 4 5 6 7 8 9 10 11 12 13;"
                                        "ticket 0 17 2027 0 3 4 5 0 1 2 0 0 0 0 1012")

    def test_whatever_numbers_there_are(self):
        purse = Purse(Register())
        purse.put(0, (-1, 10 ** 999, -10 ** 999, 0, 0, 0), (-5, 0, 0, (0, 0, 0, -7)))
        self.assertEqual(purse.image(),
                         f"ticket 0 0 -1 {10 ** 999} {-10 ** 999} 0 0 0 -5 0 0 0 0 0 -7")

    def test_inverse_to_each_other(self):
        for seed in range(30):
            draw, purse = Random(seed), Purse(Register())
            for _ in range(draw.randrange(13)):
                numbers = [draw.randrange(draw.choice((10, 10000))) for _ in range(13)]
                purse.put(draw.randrange(3), tuple(numbers[:6]), (*numbers[6:9], tuple(numbers[9:])))
            counter = Register()
            loaded = load_purse(counter, purse.image())
            self.assertIs(type(loaded), Purse)
            self.assertEqual([loaded.image(), loaded.size()], [purse.image(), purse.size()])
            for epoch in (0, 1, 2):
                while purse.left(epoch):
                    self.assertEqual(loaded.left(epoch), purse.left(epoch))
                    self.assertEqual(loaded.take(epoch), purse.take(epoch))

    def test_the_empty_purse(self):
        loaded = load_purse(Register(), "")
        self.assertEqual([loaded.size(), loaded.image(), loaded.left(0)], [0, "", 0])

    def test_loading_leaves_the_register(self):
        counter = Register()
        counter.raise_to(0, 2)
        counter.supply(0)
        purse = load_purse(counter, ";".join(f"ticket 0 {n} {n} 2 3 4 5 6 7 8 9 10 11 12 13"
                                             for n in (0, 1, 2, 9999)))
        self.assertEqual([purse.left(0), counter.count(0), taken(purse, 0)], [2, 2, "Down"])
        counter.supply(2)
        self.assertEqual([purse.take(0)[0][0], counter.count(0)], [2, 3])
        self.assertEqual([purse.take(0)[0][0], counter.count(0)], [9999, 10000])

    def test_an_image_of_the_number_9999_and_beyond(self):
        counter = Register()
        counter.raise_to(0, 9999)
        purse = purse_with(counter, (0, 1))
        self.assertEqual(load_purse(counter, purse.image()).image(), purse.image())
        put(purse, 0, 2)
        self.check_bad(purse.image())

    def test_a_part_left_out_twice_or_another(self):
        good = purse_with(Register(), (0, 1), (2, 5), (0, 3)).image()
        load_purse(Register(), good)
        parts = good.split(";")
        for at in range(3):
            words = parts[at].split(" ")
            spoilt = []
            for k in range(len(words)):
                spoilt += [words[:k] + words[k + 1:], words[:k + 1] + words[k:],
                           words[:k] + [""] + words[k:], words[:k] + [words[k] + " "] + words[k + 1:]]
            for k in range(1, len(words)):
                for number in ("+1", "-1", "-0", "01", "00", "0000", "00001", "10000", "12345", "1.0",
                               "", "x", "1x", "1e1", "1_0", "\u0661", "\u00b2", "ticket"):
                    spoilt.append(words[:k] + [number] + words[k + 1:])
            for word in ("Ticket", "tickets", "ticke", "TICKET", "", "0", "spend"):
                spoilt.append([word] + words[1:])
            for changed in spoilt:
                self.check_bad(";".join(parts[:at] + [" ".join(changed)] + parts[at + 1:]))

    def test_spaces_and_semicolons(self):
        good = purse_with(Register(), (0, 1), (1, 2)).image()
        for text in (" ", ";", ";;", " " + good, good + " ", ";" + good, good + ";",
                     good.replace(";", ";;"), good.replace(";", "; "), good.replace(";", " ;"),
                     good.replace(";", ","), good.replace(";", " "), good.replace(";", "\n"),
                     good + "\n", good.replace(" ", "\t"), "ticket", "ticket ", good.replace(" ", "")):
            self.check_bad(text)

    def test_epochs(self):
        for epoch in range(3):
            self.assertEqual(load_purse(Register(), purse_with(Register(), (epoch, 1)).image())
                             .left(epoch), 1)
        good = purse_with(Register(), (0, 1)).image()
        for epoch in ("3", "4", "9", "10", "9999"):
            bad = good.replace("ticket 0 ", f"ticket {epoch} ")
            for parts in ((bad,), (good, bad), (bad, good), (good, bad, good.replace(" 0 0 ", " 0 1 "))):
                self.check_bad(";".join(parts))

    def test_a_thirteenth_ticket(self):
        parts = [f"ticket {n % 3} {n} 1 2 3 4 5 6 7 8 9 10 11 12 13" for n in range(14)]
        self.assertEqual(load_purse(Register(), ";".join(parts[:12])).size(), 12)
        for many in (13, 14):
            self.check_bad(";".join(parts[:many]))

    def test_numbers_of_an_epoch_rise(self):
        def text(*rows):
            return ";".join(f"ticket {epoch} {number} 1 2 3 4 5 6 7 8 9 10 11 12 13"
                            for epoch, number in rows)
        for rows in (((0, 0), (0, 1)), ((0, 5), (0, 9), (0, 10)), ((0, 5), (1, 5), (2, 5)),
                     ((0, 7), (1, 2), (0, 8), (2, 0), (1, 3)), ((2, 0), (1, 0), (0, 0)), ((0, 99),)):
            self.assertEqual(load_purse(Register(), text(*rows)).image(), text(*rows))
        for rows in (((0, 0), (0, 0)), ((1, 5), (1, 4)), ((2, 9), (0, 1), (2, 9)),
                     ((0, 1), (0, 2), (1, 0), (0, 1)), ((1, 10), (1, 9)), ((2, 0), (2, 2), (2, 1))):
            self.check_bad(text(*rows))


if __name__ == "__main__":
    unittest.main()
