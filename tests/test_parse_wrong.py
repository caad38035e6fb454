import unittest

from messageways.errors import EndError, TokenError
from messageways.notation import parse_message


def outcome(notation):
    """The place of a TokenError, "end" for EndError, None if the notation is read."""
    try:
        parse_message(notation)
    except TokenError as error:
        return error.place
    except EndError:
        return "end"
    return None


class WrongTest(unittest.TestCase):
    def assert_outcome(self, notation, told):
        self.assertEqual(outcome(notation), told, notation)

    def assert_marked(self, marked):
        """The TokenError is at the place of the ^, which is not part of the notation."""
        place = marked.index("^")
        self.assert_outcome(marked[:place] + marked[place + 1:], place)

    def assert_all_marked(self, notations):
        for marked in notations:
            with self.subTest(marked):
                self.assert_marked(marked)

    def test_characters_of_texts(self):
        self.assert_all_marked([
            "^\t", "a^\r\n", "^\x7f", "a\n^\x1f", "ab^\xe9c", "^\u20ac", "{a}^\x00",
            "{w, select, other {a^\t}}", "{n, plural, =1 {^\xa0} other {}}", "^}", "a^}", "{a}^}",
            "{w, select, other {}}^}"])

    def test_apostrophes(self):
        self.assert_all_marked([
            "^'", "^'a'", "it^'s", "^' '", "^'{", "^'}", "^'#", "^'{a'", "^'{{'", "''^'", "'{'^'",
            "a''^'b", "^'{}'", "^'\n", "'#'^'#", "{w, select, other {^'}}", "{w, select, other {^'{}}",
            "{^'a}", "{a^'}", "{w, select, x ^'{'} other {}}"])

    def test_numbers_outside_of_plurals(self):
        self.assert_all_marked([
            "^#", "a^#", "'#'^#", "{w, select, x {^#} other {}}", "{w, select, other {a^#}}",
            "{n, plural, other {#}}^#", "{w, select, other {{n, plural, other {#}}^#}}",
            "{n, plural, other {{w, select, other {#}}}}^#", "{^#}", "{n, plural, ^#}"])

    def test_names(self):
        self.assert_all_marked([
            "{^}", "{ \n^}", "{^,", "{^1}", "{^A}", "{a^B}", "{a^1}", "{^\xe9}", "{^{a}}", "{^=}", "{^\ta}",
            "{a^\t}", "{^abcdefghi}", "{ ^abcdefghi", "{^aaaaaaaaaaaaaaaaaaaa, select, other {}}",
            "{a ^b}", "{a^=}", "{a^{", "{a^#", "{a^:"])

    def test_kinds(self):
        self.assert_all_marked([
            "{a,^}", "{a, ^,", "{a, ^show}", "{a, ^s}", "{a, ^selects, other {}}", "{a, ^Select",
            "{a, ^pluralselect, other {}}", "{a, ^other {}}", "{a, select^}", "{a, plural ^}",
            "{a, select ^other {}}", "{a, plural^:", "{a, ^1", "{a,^,select, other {}}", "{a, ^number,"])

    def test_words_of_selects(self):
        self.assert_all_marked([
            "{a, select, ^}", "{a, select,^,", "{a, select, ^{x}", "{a, select, ^=1 {} other {}}",
            "{a, select, x ^y {}", "{a, select, x^}", "{a, select, x {} ^}", "{a, select, x {}^,",
            "{a, select, ^abcdefghi {} other {}}", "{a, select, x {} ^otherother {}}",
            "{a, select, x^1 {}", "{a, select, ^X {}", "{a, select, offset^:1 other {}}",
            "{a, select, x {} ^x {} other {}}", "{a, select, x {} y {} ^x", "{a, select, x {y} ^# {}"])

    def test_behind_the_other_message(self):
        self.assert_all_marked([
            "{a, select, other {} ^x {}}", "{a, select, other {} ^other {}}", "{a, select, other {}^,}",
            "{a, plural, other {} ^=1 {}}", "{a, plural, other {} ^one {}}", "{a, plural, other {} ^{}",
            "{a, plural, other ^}", "{a, select, other {}\n^\t}"])

    def test_keys_of_plurals(self):
        self.assert_all_marked([
            "{n, plural, ^}", "{n, plural, ^x {} other {}}", "{n, plural, ^ones {}", "{n, plural, ^onetwo {}",
            "{n, plural, ^abcdefghi {}", "{n, plural, ^1 {} other {}}", "{n, plural, one {} ^}",
            "{n, plural, one^=1 {}", "{n, plural, =1 ^one {}", "{n, plural, ^,",
            "{n, plural, =1 ^,", "{n, plural, one ^two {}", "{n, plural, ^: {}", "{n, plural, ^select {}"])

    def test_exact_keys(self):
        self.assert_all_marked([
            "{n, plural, =^ 1 {} other {}}", "{n, plural, =^\n1 {} other {}}", "{n, plural, =^a {}",
            "{n, plural, =^-1 {}", "{n, plural, =^+1 {}", "{n, plural, =^= {}", "{n, plural, =^{",
            "{n, plural, =^00 {} other {}}", "{n, plural, =^01 {} other {}}", "{n, plural, =^007 {}",
            "{n, plural, =^1000 {} other {}}", "{n, plural, =^0999 {}", "{n, plural, =^9999999 {}",
            "{n, plural, =^" + "9" * 6000 + " {}", "{n, plural, =^" + "0" * 6000 + " {}",
            "{n, plural, =1^.5 {}", "{n, plural, =1^a {}", "{n, plural, =1 ^0 {}", "{n, plural, =^\xb2 {}",
            "{n, plural, =^\u0661 {}", "{n, plural, =1^\xb2 {}"])

    def test_offsets(self):
        self.assert_all_marked([
            "{n, plural, offset:^ 1 other {}}", "{n, plural, offset:^\n1 other {}}",
            "{n, plural, offset:^10 other {}}", "{n, plural, offset:^00 other {}}",
            "{n, plural, offset:^01 other {}}", "{n, plural, offset:^-1 other {}}",
            "{n, plural, offset:^999", "{n, plural, offset:^" + "1" * 6000, "{n, plural, offset:^other {}}",
            "{n, plural, offset:^=1 {}", "{n, plural, offset:^}", "{n, plural, offset:1 ^}",
            "{n, plural, offset:1^,", "{n, plural, offset:1 ^{}", "{n, plural, offset:1 ^2 {}"])

    def test_offset_that_is_looked_at_as_a_key(self):
        self.assert_all_marked([
            "{n, plural, ^offset {} other {}}", "{n, plural, ^offset :1 other {}}", "{n, plural, ^offset",
            "{n, plural, ^offset1 other {}}", "{n, plural, ^offset=1 {}", "{n, plural, ^offsets:1 other {}}",
            "{n, plural, ^anoffset:1 other {}}", "{n, plural, offset:1 ^offset:1 other {}}",
            "{n, plural, one {} ^offset:1 other {}}", "{n, plural, other {} ^offset:1}"])

    def test_keys_twice(self):
        self.assert_all_marked([
            "{n, plural, =1 {} ^=1 {} other {}}", "{n, plural, =0 {} =999 {} ^=0 {}", "{n, plural, =1 {} ^=1",
            "{n, plural, one {} ^one {} other {}}", "{n, plural, one {} =1 {} ^one", "{n, plural, =1 {}^=1{}",
            "{n, plural, =1 {} =^01 {} other {}}", "{n, plural, =1 {{n, plural, =1 {} ^=1 {}"])
        self.assert_outcome("{n, plural, =1 {{n, plural, =1 {} other {}}} =2 {} other {}}", None)
        self.assert_outcome("{n, plural, =1 {} =11 {} =111 {} one {} other {}}", None)
        self.assert_outcome("{w, select, x {{w, select, x {} other {}}} y {} other {}}", None)

    def test_the_first_thing_counts(self):
        self.assert_all_marked(["^#'", "{^}}", "{a, ^b\t", "{^abcdefghi\t", "^}{",
                                "{n, plural, =^01\t", "{n, plural, ^x", "a^\t'"])


class EndTest(unittest.TestCase):
    def test_ends_of_braces(self):
        for notation in ["{", "a{", "{ ", "{\n", "{a", "{a ", "{abcdefgh", "{a,", "{a, ", "{a, select",
                         "{a, plural ", "{a, select,", "{a, select,\n", "{a, select, x", "{a, select, x ",
                         "{a, select, offset", "{n, plural, offset:", "{n, plural, offset:1",
                         "{n, plural, offset:0 ", "{n, plural, =", "{n, plural, =99", "{n, plural, =0 ",
                         "{n, plural, one", "{n, plural, other", "{a, select, other {}", "{a, select, x {} "]:
            with self.subTest(notation):
                self.assertEqual(outcome(notation), "end")

    def test_ends_of_messages_within(self):
        for notation in ["{a, select, other {", "{a, select, x {", "{a, select, x {abc", "{a, select, x {''",
                         "{n, plural, other {#", "{n, plural, other {{a}", "{n, plural, other {'}'",
                         "{n, plural, other {{a, select, other {}}", "{n, plural, other {{a, select, x {} "]:
            with self.subTest(notation):
                self.assertEqual(outcome(notation), "end")

    def assert_ends(self, notation, others):
        """Each beginning of the notation ends too early, but for the lengths that are told."""
        for length in range(len(notation) + 1):
            with self.subTest(notation[:length]):
                self.assertEqual(outcome(notation[:length]), others.get(length, "end"))

    def test_a_show_at_each_of_its_places(self):
        self.assert_ends("a{ bc }d", {0: None, 1: None, 7: None, 8: None})

    def test_a_select_at_each_of_its_places(self):
        others = {0: None, len("{ab, select, x {it''s} y{{c}} other {'{'}}"): None}
        # The letters of a kind that is not yet whole, and escapes that are not whole.
        others.update({length: 5 for length in range(6, 11)})
        others.update({19: 18, 38: 37, 39: 37})
        self.assert_ends("{ab, select, x {it''s} y{{c}} other {'{'}}", others)

    def test_a_plural_at_each_of_its_places(self):
        notation = "{n, plural, offset:1 =10 {#} one {} other {''}}"
        others = {0: None, len(notation): None}
        others.update({length: 4 for length in range(5, 10)})
        others.update({length: 12 for length in range(13, 19)})
        others.update({30: 29, 31: 29, 37: 36, 38: 36, 39: 36, 40: 36, 44: 43})
        self.assert_ends(notation, others)

    def test_keys_that_are_twice_before_they_are_whole(self):
        notation = "{n, plural, =1 {} =12 {} other {}}"
        others = {0: None, len(notation): None, 20: 18}
        others.update({length: 4 for length in range(5, 10)})
        others.update({length: 25 for length in range(26, 30)})
        self.assert_ends(notation, others)


if __name__ == "__main__":
    unittest.main()
