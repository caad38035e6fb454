import copy
import unittest

from messageways.edits import Book
from messageways.errors import NoSuchKey, PowerCut, ShutError
from messageways.journal import Device, JournaledBook, opened, record_of, recovered
from messageways.messages import plain
from messageways.notation import format_message, parse_message
from tests.building import deep_message, random_messages
from tests.small import random_with, small_message


def record(body):
    """The record of a body, whatever it tells."""
    return [len(body) >> 8, len(body) & 255] + body + [sum(body) & 255, 170]


def signs(text):
    return list(text.encode("ascii"))


def put_body(key, notation):
    return [1, len(key)] + signs(key) + signs(notation)


def put(key, notation):
    return ("put", key, parse_message(notation))


DEEDS = [put("a", ""), put("hello", "Hello, {who}!"), ("drop", "a"), ("undo",),
         put("abcdefgh", "it''s '{'#'}'".replace("#", "'#'")),
         put("files", "{n, plural, offset:1 =0 {none\n} one {{w, select, x {#} other {}}} other {# ~ }}"), ("undo",),
         ("undo",),
         put("hello", "\n\n"), ("drop", "hello"), put("z", "x" * 300)]


class RecordTest(unittest.TestCase):
    def test_put(self):
        self.assertEqual(record_of(("put", "a", [])), [0, 3, 1, 1, 97, 99, 170])
        self.assertEqual(record_of(("put", "ab", [("text", "c")])),
                         [0, 5, 1, 2, 97, 98, 99, (3 + 97 + 98 + 99) % 256, 170])
        self.assertEqual(record_of(put("a", "\n~ {b}")), [
            0, 9, 1, 1, 97, 10, 126, 32, 123, 98, 125, (2 + 97 + 10 + 126 + 32 + 123 + 98 + 125) % 256, 170])
        self.assertEqual(record_of(put("k", "'''{'")),
                         [0, 8, 1, 1, 107, 39, 39, 39, 123, 39, (2 + 107 + 4 * 39 + 123) % 256, 170])

    def test_choices(self):
        notation = "{n, plural, offset:1 =0 {'#'#} one {{w, select, x {} other {''}}} other {\n}}"
        self.assertEqual(record_of(put("files", notation)), record([1, 5] + signs("files") + signs(notation)))

    def test_plain_form(self):
        message = [("text", ""), ("text", "a"), ("text", "b"), ("select", "w", [("x", [("text", "")])], []),
                   ("text", "")]
        before = copy.deepcopy(message)
        self.assertEqual(record_of(("put", "a", message)), record(put_body("a", "ab{w, select, x {} other {}}")))
        self.assertEqual(message, before)

    def test_drop_and_undo(self):
        self.assertEqual(record_of(("drop", "a")), [0, 2, 2, 97, 99, 170])
        self.assertEqual(record_of(("drop", "abcdefgh")),
                         [0, 9, 2] + signs("abcdefgh") + [(2 + sum(signs("abcdefgh"))) % 256, 170])
        self.assertEqual(record_of(("undo",)), [0, 1, 3, 3, 170])

    def test_long_bodies(self):
        for many, length in ((252, [0, 255]), (253, [1, 0]), (254, [1, 1]), (700, [2, 191]), (65532, [255, 255])):
            octets = record_of(put("a", "x" * many))
            self.assertEqual(octets[:2], length)
            self.assertEqual(octets[2:], [1, 1, 97] + [120] * many + [(99 + 120 * many) % 256, 170])
            self.assertEqual(recovered(octets), ([put("a", "x" * many)], many + 7))


class RecoveredTest(unittest.TestCase):
    def all_octets(self):
        return [octet for deed in DEEDS for octet in record_of(deed)]

    def test_all_deeds(self):
        octets = self.all_octets()
        before = list(octets)
        self.assertEqual(recovered(octets), (DEEDS, len(octets)))
        self.assertEqual(octets, before)
        self.assertEqual(recovered([]), ([], 0))

    def test_a_cut_at_each_octet(self):
        octets = self.all_octets()
        ends = [0]
        for deed in DEEDS:
            ends.append(ends[-1] + len(record_of(deed)))
        for cut in range(len(octets) + 1):
            many = len([end for end in ends[1:] if end <= cut])
            self.assertEqual(recovered(octets[:cut]), (DEEDS[:many], ends[many]))

    def test_each_octet_of_a_record_wrong(self):
        first, last = record_of(put("b", "x")), record_of(("undo",))
        for deed in DEEDS[1:4] + [put("ab", "{a}b")]:
            middle = record_of(deed)
            for place in range(len(middle)):
                for octet in {0, 1, 2, 3, 32, 37, 97, 170, 255, middle[place] ^ 1,
                              (middle[place] + 1) % 256} - {middle[place]}:
                    wrong = middle[:place] + [octet] + middle[place + 1:]
                    found = recovered(first + wrong + last)
                    self.assertEqual(found, ([put("b", "x")], len(first)), (deed, place, octet))

    def test_bodies_that_tell_no_deed(self):
        first, last = record_of(put("b", "x")), record_of(("undo",))
        for body in (
                [], [0], [1], [2], [4], [1, 0], [1, 1], [1, 0, 97], [3, 0], [3, 3], [0, 97], [4, 97], [170], [255],
                # Keys that are none.
                put_body("abcdefghi", "x"), put_body("A", "x"), put_body("a1", "x"), put_body(" a", "x"),
                put_body("", "x"),
                [1, 9] + signs("abcdefgh"), [1, 3] + signs("ab"), [1, 2] + signs("a{b}"), [1, 200] + signs("ab"),
                [2] + signs("abcdefghi"), [2] + signs("Ab"), [2] + signs("a b"), [2] + signs("a\n"), [2, 200],
                [2, 97, 0],
                # Notations that cannot be read.
                put_body("a", "{"), put_body("a", "}"), put_body("a", "'"), put_body("a", "#"), put_body("a", "{b"),
                put_body("a", "{abcdefghi}"), put_body("a", "{n, plural, one {a}}"),
                put_body("a", "{n, plural, =1 {} =1 {} other {}}"),
                # Notations of no plain form: with other spaces, or a needless offset.
                put_body("a", "{ b}"), put_body("a", "{w,select, other {}}"), put_body("a", "{w, select, other {} }"),
                put_body("a", "{n, plural, offset:0 other {}}"), put_body("a", "{n, plural,\nother {}}"),
                # A percent sign, and octets that are no signs.
                put_body("a", "%"), put_body("a", "10 %{b}"), put_body("a", "") + [9], put_body("a", "") + [13],
                put_body("a", "x") + [0], put_body("a", "x") + [31], put_body("a", "x") + [127],
                put_body("a", "x") + [128, 255],
                put_body("a", "x") + [195, 164], [2, 37], [1, 1, 37, 97]):
            self.assertEqual(recovered(first + record(body) + last), ([put("b", "x")], len(first)), body)
            self.assertEqual(recovered(record(body)), ([], 0), body)

    def test_keys_and_notations_that_might_seem_wrong(self):
        for deed in (put("other", "x"), put("select", "{other}"), put("abcdefgh", "{abcdefgh}"), put("a", "''"),
                     put("a", "a''"),
                     put("a", " \n "), put("a", "{n, plural, offset:9 =999 {#} other {'#'}}"), ("drop", "abcdefgh")):
            self.assertEqual(recovered(record_of(deed)), ([deed], len(record_of(deed))))

    def test_what_follows_does_not_count(self):
        first = record_of(("drop", "a"))
        for rest in ([0], [0, 0], [0, 0, 0, 170], [0, 1, 3, 3, 171], [0, 1, 3, 4, 170], [0, 2, 3, 3, 170], [255, 255],
                     [0, 1, 3, 3],
                     [0] + record_of(("undo",)), [170] + first):
            self.assertEqual(recovered(first + rest + record_of(("undo",)) * 3), ([("drop", "a")], len(first)))

    def test_many_messages(self):
        messages = [message for message in random_messages(120, 3) if "%" not in format_message(message)]
        deeds = [("put", "key", message) for message in messages]
        octets = [octet for deed in deeds for octet in record_of(deed)]
        self.assertEqual(recovered(octets), (deeds, len(octets)))

    def test_deep_messages(self):
        message = deep_message(1200, [("show", "a")])
        deeds, many = recovered(record_of(("put", "a", message)))
        self.assertEqual(format_message(deeds[0][2]), format_message(message))


class DeviceTest(unittest.TestCase):
    def test_power(self):
        octets = [1, 2, 3]
        device = Device(octets, 2)
        self.assertEqual((device.octets, device.power), ([1, 2, 3], 2))
        device.append(9)
        device.append(0)
        self.assertEqual((device.octets, device.power), ([1, 2, 3, 9, 0], 0))
        for _ in range(2):
            with self.assertRaises(PowerCut) as caught:
                device.append(7)
            self.assertEqual(caught.exception.written, 5)
            self.assertEqual((device.octets, device.power), ([1, 2, 3, 9, 0], 0))
        self.assertEqual(octets, [1, 2, 3])

    def test_no_power_at_all(self):
        with self.assertRaises(PowerCut) as caught:
            Device([], 0).append(7)
        self.assertEqual(caught.exception.written, 0)


class JournaledBookTest(unittest.TestCase):
    def test_fields(self):
        book, device = Book(), Device([], 9)
        journaled = JournaledBook(book, device)
        self.assertIs(journaled.book, book)
        self.assertIs(journaled.device, device)
        self.assertIs(journaled.shut, False)

    def test_answers_and_records(self):
        journaled = JournaledBook(Book(), Device([], 1000))
        octets = []
        for deed, answer in ((put("a", "1"), False), (put("a", "2"), True), (("drop", "a"), [("text", "2")]),
                             (("undo",), True),
                             (("undo",), True), (put("b", "{w}"), False)):
            kept = copy.deepcopy(deed)
            self.assertEqual(journaled.perform(deed), answer)
            self.assertEqual(deed, kept)
            octets += record_of(deed)
            self.assertEqual(journaled.device.octets, octets)
        self.assertEqual(journaled.book.messages(), {"a": parse_message("1"), "b": parse_message("{w}")})
        self.assertEqual(journaled.device.power, 1000 - len(octets))
        self.assertIs(journaled.shut, False)

    def test_what_raises_writes_nothing(self):
        journaled = JournaledBook(Book(), Device([], 1000))
        with self.assertRaises(NoSuchKey) as caught:
            journaled.perform(("drop", "a"))
        self.assertEqual(caught.exception.key, "a")
        self.assertIs(journaled.perform(("undo",)), False)
        self.assertEqual((journaled.device.octets, journaled.device.power, journaled.shut), ([], 1000, False))
        journaled.perform(put("a", ""))
        self.assertIs(journaled.perform(("undo",)), True)
        octets = list(journaled.device.octets)
        self.assertIs(journaled.perform(("undo",)), False)
        with self.assertRaises(NoSuchKey):
            journaled.perform(("drop", "a"))
        self.assertEqual((journaled.device.octets, journaled.book.messages(), journaled.shut), (octets, {}, False))

    def test_what_writes_nothing_needs_no_power(self):
        journaled = JournaledBook(Book(), Device([], 0))
        self.assertIs(journaled.perform(("undo",)), False)
        with self.assertRaises(NoSuchKey):
            journaled.perform(("drop", "a"))
        self.assertIs(journaled.shut, False)
        with self.assertRaises(PowerCut):
            journaled.perform(put("a", ""))
        self.assertIs(journaled.shut, True)

    def test_the_power_goes_anywhere(self):
        whole = [octet for deed in DEEDS for octet in record_of(deed)]
        for power in range(len(whole) + 2):
            journaled = JournaledBook(Book(), Device([], power))
            done, states = [], [{}]
            for deed in DEEDS:
                try:
                    journaled.perform(deed)
                except PowerCut as error:
                    self.assertEqual(error.written, power)
                    break
                done.append(deed)
                states.append(journaled.book.messages())
            self.assertEqual(journaled.device.octets, whole[:power])
            self.assertEqual(journaled.shut, power < len(whole))
            self.assertEqual(recovered(journaled.device.octets)[0], done)
            again = opened(journaled.device.octets, 0)
            self.assertEqual(again.book.messages(), states[-1])
            self.assertEqual(again.shut, False)

    def test_the_deed_stays_done_and_all_is_shut(self):
        first = record_of(put("a", "1"))
        for deed, answer in ((put("b", "2"), {"a": "1", "b": "2"}), (("drop", "a"), {}), (("undo",), {})):
            for more in range(len(record_of(deed))):
                journaled = JournaledBook(Book(), Device([], len(first) + more))
                journaled.perform(put("a", "1"))
                with self.assertRaises(PowerCut) as caught:
                    journaled.perform(deed)
                self.assertEqual(caught.exception.written, len(first) + more)
                octets = first + record_of(deed)[:more]
                messages = {key: parse_message(notation) for key, notation in answer.items()}
                for later in (put("c", ""), ("drop", "zzz"), ("undo",), ("undo",), ("drop", "a")):
                    self.assertEqual((journaled.shut, journaled.book.messages(), journaled.device.octets),
                                     (True, messages, octets))
                    with self.assertRaises(ShutError):
                        journaled.perform(later)
                self.assertEqual(recovered(octets), ([put("a", "1")], len(first)))

    def test_power_just_behind_a_record(self):
        octets = record_of(put("a", "1"))
        journaled = JournaledBook(Book(), Device([], len(octets)))
        self.assertIs(journaled.perform(put("a", "1")), False)
        self.assertIs(journaled.shut, False)
        with self.assertRaises(PowerCut) as caught:
            journaled.perform(("undo",))
        self.assertEqual(caught.exception.written, len(octets))
        self.assertEqual(journaled.device.octets, octets)
        self.assertEqual(journaled.book.messages(), {})


class OpenedTest(unittest.TestCase):
    def test_the_rest_is_cut_off(self):
        whole = record_of(put("a", "1")) + record_of(put("a", "2"))
        for rest in ([], [0], record_of(("drop", "a"))[:-1], [9] * 50, record([2, 37])):
            octets = whole + rest
            journaled = opened(octets, 5)
            self.assertEqual((journaled.device.octets, journaled.device.power, journaled.shut), (whole, 5, False))
            self.assertEqual(journaled.book.messages(), {"a": parse_message("2")})
            self.assertEqual(octets, whole + rest)
            self.assertIs(journaled.perform(("undo",)), True)
            self.assertEqual(journaled.book.messages(), {"a": parse_message("1")})
            self.assertEqual(journaled.device.octets, whole + record_of(("undo",)))
            with self.assertRaises(PowerCut) as caught:
                journaled.perform(("undo",))
            self.assertEqual(caught.exception.written, len(whole) + 5)

    def test_nothing_written(self):
        journaled = opened([], 3)
        self.assertEqual((journaled.book.messages(), journaled.device.octets, journaled.device.power), ({}, [], 3))
        self.assertIs(journaled.perform(("undo",)), False)

    def test_gone_on_with_and_recovered_again(self):
        chance = random_with(95)
        for _ in range(60):
            octets, book, told = [], Book(), []
            for _ in range(5):
                journaled = opened(octets, chance.choice([5, 30, 100, 300]))
                self.assertEqual(journaled.book.messages(), book.messages())
                try:
                    for _ in range(20):
                        deed = self.random_deed(chance)
                        try:
                            done = journaled.perform(deed)
                        except NoSuchKey:
                            continue
                        if deed[0] == "undo" and not done:
                            continue
                        told.append(deed if deed[0] != "put" else ("put", deed[1], plain(deed[2])))
                        self.same_deed(book, deed)
                        self.assertEqual(journaled.book.messages(), book.messages())
                except PowerCut:
                    self.assertTrue(journaled.shut)
                octets = journaled.device.octets + [0, 1, 3][:chance.randint(0, 3)] * (not journaled.shut)
                self.assertEqual(recovered(octets)[0], told)

    def random_deed(self, chance):
        kind = chance.choice(["put", "put", "drop", "undo"])
        if kind == "put":
            return ("put", chance.choice("ab"), small_message(chance, 1))
        return ("drop", chance.choice("ab")) if kind == "drop" else ("undo",)

    def same_deed(self, book, deed):
        if deed[0] == "put":
            book.put(deed[1], deed[2])
        elif deed[0] == "drop":
            book.drop(deed[1])
        else:
            book.undo()


if __name__ == "__main__":
    unittest.main()
