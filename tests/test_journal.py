import random
import unittest

from larderdays.batches import Ledger
from larderdays.errors import BadChoice, NoSuchBatch, PowerCut, Short, ShutError
from larderdays.journal import Device, JournaledLedger, opened, record_of, recovered
from larderdays.shops import Shop, is_choice
from tests.book import Book, rows_of_deeds, state_of
from tests.samples import lean, parts, three_goods, two_goods

# Deeds of two_goods that can all be done, their records, and how many octets these take.
DEEDS = [("buy", (1, 1)), ("issue", (1, 2)), ("night",), ("buy", (0, 2)), ("recall", 0), ("issue", (0, 1))]
RECORDS = [
    [3, 1, 1, 1, 3, 170],
    [3, 2, 1, 2, 5, 170],
    [1, 3, 3, 170],
    [3, 1, 0, 2, 3, 170],
    [3, 4, 0, 0, 4, 170],
    [3, 2, 0, 1, 3, 170],
]
OCTETS = [octet for record in RECORDS for octet in record]
MUCH = 10 ** 6


def whole_deeds(shop, octets):
    """[32], word by word."""
    deeds, at = [], 0
    while at < len(octets):
        length = octets[at]
        record = octets[at:at + length + 3]
        if len(record) < length + 3 or record[-1] != 170 or record[-2] != sum(record[1:-2]) % 256:
            break
        body = record[1:-2]
        if body[:1] == [1] and is_choice(shop, tuple(body[1:])):
            deeds.append(("buy", tuple(body[1:])))
        elif body[:1] == [2] and len(body) == len(shop.keep) + 1:
            deeds.append(("issue", tuple(body[1:])))
        elif body == [3]:
            deeds.append(("night",))
        elif body[:1] == [4] and len(body) == 3:
            deeds.append(("recall", 256 * body[1] + body[2]))
        else:
            break
        at += length + 3
    return deeds, at


def done_deeds(shop, deeds):
    """A tuple: those of the deeds that can be done, one after the other, and the book that they lead to."""
    book = Book(shop)
    found = []
    for deed in deeds:
        try:
            book.perform(deed)
            found.append(deed)
        except (BadChoice, Short, NoSuchBatch):
            pass
    return found, book


class RecordTest(unittest.TestCase):
    """[31]."""

    def test_ordinary(self):
        for deed, record in zip(DEEDS, RECORDS):
            self.assertEqual(record_of(deed), record)
        self.assertEqual(record_of(("buy", (0, 2, 4))), [4, 1, 0, 2, 4, 7, 170])
        self.assertEqual(record_of(("issue", (5,))), [2, 2, 5, 7, 170])

    def test_numbers_of_sides(self):
        self.assertEqual(record_of(("recall", 0)), [3, 4, 0, 0, 4, 170])
        self.assertEqual(record_of(("recall", 255)), [3, 4, 0, 255, 3, 170])
        self.assertEqual(record_of(("recall", 256)), [3, 4, 1, 0, 5, 170])
        self.assertEqual(record_of(("recall", 65535)), [3, 4, 255, 255, 2, 170])
        for number in range(0, 65536, 251):
            self.assertEqual(record_of(("recall", number))[2:4], [number // 256, number % 256])

    def test_counts_up_to_255(self):
        self.assertEqual(record_of(("issue", (255, 255))), [3, 2, 255, 255, 0, 170])
        self.assertEqual(record_of(("issue", (253,))), [2, 2, 253, 255, 170])
        self.assertEqual(record_of(("issue", (254,))), [2, 2, 254, 0, 170])
        self.assertEqual(record_of(("issue", (0, 0, 0, 0))), [5, 2, 0, 0, 0, 0, 2, 170])

    def test_many_patterns(self):
        self.assertEqual(record_of(("buy", (0,) * 7 + (6,))), [9, 1, 0, 0, 0, 0, 0, 0, 0, 6, 7, 170])

    def test_a_record_is_recovered(self):
        shop = Shop([1, 2], [(1, (1, 1))] * 3, 6, [[(0, 0)]])
        for deed in [("buy", (1, 2, 3)), ("buy", (0, 0, 0)), ("issue", (255, 0)), ("night",), ("recall", 65535)]:
            self.assertEqual(recovered(shop, record_of(deed)), ([deed], len(record_of(deed))))


class RecoveredTest(unittest.TestCase):
    """[32]."""

    def check(self, octets, deeds, length, shop=None):
        self.assertEqual(recovered(shop or two_goods(), octets), (deeds, length))

    def test_whole_records(self):
        self.check(OCTETS, DEEDS, len(OCTETS))
        self.check(RECORDS[2] * 3, [("night",)] * 3, 12)

    def test_no_octets_at_all(self):
        self.check([], [], 0)

    def test_cut_anywhere(self):
        ends = [sum(len(record) for record in RECORDS[:many]) for many in range(len(RECORDS) + 1)]
        for cut in range(len(OCTETS) + 1):
            many = max(place for place, end in enumerate(ends) if end <= cut)
            self.check(OCTETS[:cut], DEEDS[:many], ends[many])

    def test_an_octet_set_otherwise(self):
        for at in range(6, 12):
            for octet in range(256):
                octets = OCTETS[:at] + [octet] + OCTETS[at + 1:]
                self.assertEqual(recovered(two_goods(), octets), whole_deeds(two_goods(), octets))
                if octet != OCTETS[at]:
                    self.check(octets, DEEDS[:1], 6)

    def test_an_octet_left_out_or_put_in(self):
        for at in range(len(OCTETS)):
            for octets in [OCTETS[:at] + OCTETS[at + 1:]] + [OCTETS[:at] + [o] + OCTETS[at:] for o in (0, 1, 3, 170)]:
                self.assertEqual(recovered(two_goods(), octets), whole_deeds(two_goods(), octets))
        self.check(OCTETS[1:], [], 0)
        self.check([0] + OCTETS, [], 0)
        self.check(OCTETS[:6] + [0] + OCTETS[6:], DEEDS[:1], 6)

    def test_bodies_that_tell_no_deed(self):
        bodies = [
            [], [0], [1], [2], [4], [5], [3, 0], [3, 3], [0, 1, 1], [5, 1, 1], [255],
            [1, 1], [1, 0, 0, 0], [1, 3, 0], [1, 1, 2], [1, 0, 255],
            [2, 1], [2, 0, 0, 0], [4, 1], [4, 0, 0, 0],
        ]
        for body in bodies:
            record = [len(body), *body, sum(body) % 256, 170]
            self.check(record, [], 0)
            self.check(RECORDS[0] + record + RECORDS[2], DEEDS[:1], 6)

    def test_a_choice_of_the_shop(self):
        self.check(record_of(("buy", (2, 0))), [("buy", (2, 0))], 6)
        self.check(record_of(("buy", (2, 0))), [], 0, two_goods(9))
        self.check(record_of(("buy", (1, 1))), [("buy", (1, 1))], 6, two_goods(8))
        self.check(record_of(("buy", (0, 1))), [], 0, two_goods(0))
        self.check(record_of(("buy", (0, 0))), [("buy", (0, 0))], 6, two_goods(0))

    def test_deeds_that_could_not_be_done_are_told(self):
        deeds = [("issue", (255, 255)), ("recall", 65535), ("night",)]
        octets = [octet for deed in deeds for octet in record_of(deed)]
        self.check(octets, deeds, len(octets))

    def test_the_records_of_another_shop(self):
        self.check(OCTETS, [], 0, three_goods())
        self.check(RECORDS[2] + RECORDS[0], [("night",)], 4, lean())

    def test_what_is_behind_the_first_that_is_not_whole_is_cut_off(self):
        self.check(RECORDS[2] + [1, 3, 3, 171] + RECORDS[2], [("night",)], 4)
        self.check(RECORDS[2] + [1, 3, 4, 170] + RECORDS[2], [("night",)], 4)
        self.check(RECORDS[2] + [2, 3, 3, 170] + RECORDS[2], [("night",)], 4)

    def test_against_its_words(self):
        chance = random.Random(91)
        longest = 0
        for shop, deeds in rows_of_deeds(100, 92):
            octets = [octet for deed in done_deeds(shop, deeds)[0] for octet in record_of(deed)]
            for _ in range(30):
                other = list(octets)
                for _ in range(chance.randint(0, 2)):
                    at = chance.randrange(len(other))
                    other[at:at + chance.randint(0, 1)] = chance.choice([[], [0], [3], [170], [other[at] + 1 & 255]])
                found = recovered(shop, other)
                self.assertEqual(found, whole_deeds(shop, other))
                longest = max(longest, len(found[0]))
        self.assertGreater(longest, 10)


class DeviceTest(unittest.TestCase):
    """[33], the device."""

    def test_ordinary(self):
        device = Device([1, 2], 3)
        self.assertEqual((device.octets, device.power), ([1, 2], 3))
        device.append(7), device.append(0), device.append(255)
        self.assertEqual((device.octets, device.power), ([1, 2, 7, 0, 255], 0))

    def test_an_octet_more(self):
        device = Device([9], 1)
        device.append(8)
        for _ in range(3):
            with self.assertRaises(PowerCut) as caught:
                device.append(7)
            self.assertEqual(caught.exception.written, 2)
            self.assertEqual((device.octets, device.power), ([9, 8], 0))

    def test_a_power_of_0(self):
        device = Device([], 0)
        with self.assertRaises(PowerCut) as caught:
            device.append(1)
        self.assertEqual(caught.exception.written, 0)
        self.assertEqual(device.octets, [])

    def test_the_octets_are_its_own(self):
        octets = [1, 2]
        device = Device(octets, 5)
        device.append(3)
        self.assertEqual(octets, [1, 2])
        octets.clear()
        self.assertEqual(device.octets, [1, 2, 3])


class JournaledTest(unittest.TestCase):
    """[33], journaled ledgers."""

    def test_its_fields(self):
        ledger, device = Ledger(two_goods()), Device([], 9)
        journaled = JournaledLedger(ledger, device)
        self.assertIs(journaled.ledger, ledger)
        self.assertIs(journaled.device, device)
        self.assertIs(journaled.shut, False)

    def test_what_the_ledger_returns_and_just_its_record(self):
        journaled = JournaledLedger(Ledger(two_goods()), Device([], MUCH))
        answers = [[0, 1], [(0, 0, 1), (0, 1, 2)], [(1, 1, 1)], [2, 3], [(0, 0, 1), (0, 1, 2)], [(2, 1, 1)]]
        written = []
        for deed, record, answer in zip(DEEDS, RECORDS, answers):
            self.assertEqual(journaled.perform(deed), answer)
            written += record
            self.assertEqual(journaled.device.octets, written)
        self.assertEqual(journaled.device.power, MUCH - len(OCTETS))
        self.assertIs(journaled.shut, False)

    def test_what_raises_writes_nothing(self):
        for power in [MUCH, 0]:
            journaled = JournaledLedger(Ledger(two_goods()), Device([5], power))
            before = state_of(journaled.ledger, 0)
            wrong = [(("buy", (3, 0)), BadChoice), (("issue", (0, 1)), Short), (("recall", 0), NoSuchBatch)]
            for deed, error in wrong:
                with self.assertRaises(error):
                    journaled.perform(deed)
                self.assertEqual((journaled.device.octets, journaled.device.power), ([5], power))
                self.assertEqual(state_of(journaled.ledger, 0), before)
                self.assertIs(journaled.shut, False)

    def test_the_fields_of_what_it_raises(self):
        journaled = JournaledLedger(Ledger(two_goods()), Device([], MUCH))
        with self.assertRaises(Short) as caught:
            journaled.perform(("issue", (0, 1)))
        self.assertEqual(caught.exception.good, 1)
        with self.assertRaises(NoSuchBatch) as caught:
            journaled.perform(("recall", 7))
        self.assertEqual(caught.exception.number, 7)

    def test_a_power_that_is_just_enough(self):
        journaled = JournaledLedger(Ledger(two_goods()), Device([], len(OCTETS)))
        for deed in DEEDS:
            journaled.perform(deed)
        self.assertEqual((journaled.device.octets, journaled.device.power, journaled.shut), (OCTETS, 0, False))
        with self.assertRaises(PowerCut) as caught:
            journaled.perform(("night",))
        self.assertEqual(caught.exception.written, len(OCTETS))
        self.assertEqual((journaled.device.octets, journaled.shut), (OCTETS, True))

    def test_the_power_goes_anywhere(self):
        for power in range(len(OCTETS)):
            journaled = JournaledLedger(Ledger(two_goods()), Device([], power))
            book = Book(two_goods())
            told = []
            with self.assertRaises(PowerCut) as caught:
                for deed in DEEDS:
                    book.perform(deed)
                    journaled.perform(deed)
                    told.append(deed)
            self.assertEqual(caught.exception.written, power)
            self.assertEqual(journaled.device.octets, OCTETS[:power])
            self.assertIs(journaled.shut, True)
            # The deed stays done, and nothing is done any more.
            self.assertEqual(state_of(journaled.ledger, book.sides), state_of(book, book.sides))
            for deed in DEEDS + [("buy", (9, 9)), ("issue", (99, 99)), ("recall", 99)]:
                with self.assertRaises(ShutError):
                    journaled.perform(deed)
            self.assertEqual(journaled.device.octets, OCTETS[:power])
            self.assertEqual(state_of(journaled.ledger, book.sides), state_of(book, book.sides))
            self.assertEqual(recovered(two_goods(), journaled.device.octets)[0], told)

    def test_shut_even_if_the_device_has_power_again(self):
        journaled = JournaledLedger(Ledger(lean()), Device([], 0))
        with self.assertRaises(PowerCut):
            journaled.perform(("night",))
        journaled.device.power = 100
        with self.assertRaises(ShutError):
            journaled.perform(("night",))
        self.assertEqual((journaled.ledger.today, journaled.device.octets), (1, []))

    def test_deed_by_deed(self):
        for shop, deeds in rows_of_deeds(60, 93):
            can, book = done_deeds(shop, deeds)
            journaled = JournaledLedger(Ledger(shop), Device([], MUCH))
            for deed in deeds:
                try:
                    journaled.perform(deed)
                except (BadChoice, Short, NoSuchBatch):
                    pass
            self.assertEqual(state_of(journaled.ledger, book.sides), state_of(book, book.sides))
            self.assertEqual(journaled.device.octets, [octet for deed in can for octet in record_of(deed)])
            self.assertEqual(recovered(shop, journaled.device.octets)[0], can)


class OpenedTest(unittest.TestCase):
    """[33], opening."""

    def test_ordinary(self):
        journaled = opened(two_goods(), OCTETS, 10)
        book = done_deeds(two_goods(), DEEDS)[1]
        self.assertEqual(state_of(journaled.ledger, 4), state_of(book, 4))
        self.assertEqual((journaled.device.octets, journaled.device.power), (OCTETS, 10))
        self.assertIs(journaled.shut, False)

    def test_no_octets_at_all(self):
        journaled = opened(two_goods(), [], 0)
        self.assertEqual((journaled.ledger.today, journaled.ledger.amounts()), (0, [0, 0]))
        self.assertEqual((journaled.device.octets, journaled.device.power, journaled.shut), ([], 0, False))

    def test_cut_anywhere_and_going_on(self):
        for cut in range(len(OCTETS) + 1):
            deeds, length = whole_deeds(two_goods(), OCTETS[:cut])
            book = done_deeds(two_goods(), deeds)[1]
            journaled = opened(two_goods(), OCTETS[:cut], MUCH)
            self.assertEqual(state_of(journaled.ledger, book.sides), state_of(book, book.sides))
            self.assertEqual((journaled.device.octets, journaled.device.power), (OCTETS[:length], MUCH))
            self.assertIs(journaled.shut, False)
            more = [("buy", (2, 0)), ("issue", (2, 2)), ("night",), ("recall", book.sides)]
            for deed in more:
                self.assertEqual(journaled.perform(deed), book.perform(deed))
            self.assertEqual(recovered(two_goods(), journaled.device.octets)[0], deeds + more)

    def test_the_power_goes_again_and_again(self):
        chance = random.Random(94)
        for shop, deeds in rows_of_deeds(40, 95, 40):
            can = done_deeds(shop, deeds)[0]
            told = []
            journaled = opened(shop, [], chance.randint(0, 20))
            while len(told) < len(can):
                try:
                    journaled.perform(can[len(told)])
                    told.append(can[len(told)])
                except PowerCut as cut:
                    octets = journaled.device.octets
                    self.assertEqual(cut.written, len(octets))
                    self.assertEqual(recovered(shop, octets)[0], told)
                    journaled = opened(shop, octets, chance.randint(0, 20))
            book = done_deeds(shop, can)[1]
            self.assertEqual(state_of(journaled.ledger, book.sides), state_of(book, book.sides))
            self.assertEqual(recovered(shop, journaled.device.octets)[0], can)

    def test_octets_of_deeds_that_cannot_be_done(self):
        deeds = [("issue", (1, 0)), ("buy", (1, 0)), ("recall", 9), ("night",)]
        octets = [octet for deed in deeds for octet in record_of(deed)]
        journaled = opened(two_goods(), octets, 3)
        self.assertEqual((journaled.ledger.today, journaled.ledger.amounts()), (1, [1, 0]))
        self.assertEqual(journaled.device.octets, octets)


class NothingChangesTest(unittest.TestCase):
    """[2], for journals."""

    def test_nothing_is_changed(self):
        shop, octets = two_goods(9), OCTETS + [3, 1]
        record_of(DEEDS[0]), recovered(shop, octets)
        journaled = opened(shop, octets, MUCH)
        journaled.perform(("night",))
        self.assertEqual(octets, OCTETS + [3, 1])
        self.assertEqual(parts(shop), parts(two_goods(9)))

    def test_lists_are_new(self):
        record_of(DEEDS[0]).clear()
        self.assertEqual(record_of(DEEDS[0]), RECORDS[0])
        recovered(two_goods(), OCTETS)[0].clear()
        self.assertEqual(recovered(two_goods(), OCTETS)[0], DEEDS)


if __name__ == "__main__":
    unittest.main()
