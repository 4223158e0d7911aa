import unittest

from tests.support import begin, bound, last, like, list_text, load, run


def loaded(text):
    return last(load(text))


FOUR = "measures a up, b down, c up, d down"
RIGHT = "measures a up, b down ; item x : 1, 2 ; item y : 3, -4 ;"


def items(count):
    return "measures m up ; " + " ".join(f"item n{n} : {n} ;" for n in range(count))


class Faults(unittest.TestCase):

    def assert_fault(self, text, code, place):
        self.assertEqual(loaded(text), [0, code, place], text)

    def assert_fault_at(self, text, code):
        """The fault's place is where @ stands in the text; the @ itself is taken out."""
        place = text.index("@")
        self.assert_fault(text.replace("@", ""), code, place)


class RightLists(unittest.TestCase):

    def test_one_measure(self):
        self.assertEqual(loaded("measures a up ; item x : 7 ;"), [1, 1, 1])

    def test_four_measures(self):
        self.assertEqual(loaded(FOUR + " ; item x : 1, 2, 3, 4 ;"), [1, 4, 1])

    def test_no_item(self):
        for text, count in (("measures a down ;", 1), (FOUR + ";", 4)):
            self.assertEqual(loaded(text), [1, count, 0])

    def test_sixteen_items(self):
        self.assertEqual(loaded(items(16)), [1, 1, 16])

    def test_nothing_between_tokens(self):
        self.assertEqual(loaded("measures a up,b down;item x:1,2;item y:3,-4;"), [1, 2, 2])

    def test_a_number_parts_from_letters_behind_it(self):
        self.assertEqual(loaded("measures a up;item x:1;item y:2;"), [1, 1, 2])
        self.assertEqual(loaded("measures a up;item x:1item y:2;"), [0, 3, len("measures a up;item x:1")])

    def test_blanks_and_remarks_everywhere(self):
        tokens = "measures a up , b down ; item x : 1 , 2 ; item y : 3 , - 4 ;".split()
        for between in (" ", "\t", "\n", " \t\n\n", "#\n", "#any \x00\xff ; item # \r!\n", " # a\n# b\n\t"):
            self.assertEqual(loaded(between + between.join(tokens) + between), [1, 2, 2], between)

    def test_a_remark_that_the_end_closes(self):
        self.assertEqual(loaded(RIGHT + "# item z : 1"), [1, 2, 2])
        self.assertEqual(loaded(RIGHT + "#"), [1, 2, 2])

    def test_a_remark_parts_tokens(self):
        self.assertEqual(loaded("measures#\na#\nup#\n;"), [1, 1, 0])
        self.assertEqual(loaded("measures a#up ;\nup ;"), [1, 1, 0])

    def test_names(self):
        for name in ("a", "Z", "a1b2", "A234567890123456", "Up", "ups", "ITEM", "item1", "measure"):
            self.assertEqual(loaded(f"measures {name} up ; item {name} : 1 ;"), [1, 1, 1], name)

    def test_letters_and_digits_at_their_edges(self):
        self.assertEqual(loaded("measures AZaz09 up, A down ;"), [1, 2, 0])

    def test_great_and_small_letters_differ(self):
        self.assertEqual(loaded("measures a up, A up ; item x : 1, 1 ; item X : 1, 1 ;"), [1, 2, 2])

    def test_values(self):
        for value in ("0", "-0", "9", "10", "1000", "-1000", "- 1"):
            self.assertEqual(loaded(f"measures m up ; item x : {value} ;"), [1, 1, 1], value)

    def test_minus_nought_is_nought(self):
        self.assertEqual(last(load("measures m up ; item x : -0 ;"), bound(0, 0, 0)), [1])

    def test_an_item_may_have_a_measures_name(self):
        self.assertEqual(loaded("measures a up, b up ; item a : 1, 2 ; item b : 3, 4 ;"), [1, 2, 2])


class Fault1(Faults):

    def test_4096_bytes_are_none(self):
        self.assertEqual(loaded(RIGHT.ljust(4096)), [1, 2, 2])

    def test_4097_bytes_are(self):
        self.assert_fault(RIGHT.ljust(4097), 1, 4096)
        self.assert_fault(" " * 8192, 1, 4096)

    def test_comes_before_all_else(self):
        self.assert_fault("!" * 4097, 1, 4096)
        self.assert_fault("!" * 4096, 2, 0)


class Fault2(Faults):

    def test_a_name_of_17_bytes(self):
        self.assert_fault_at("measures @A2345678901234567 up ;", 2)
        self.assert_fault_at("measures m up ; item @" + "x" * 3000 + " : 1 ;", 2)

    def test_a_number_too_great(self):
        self.assert_fault_at("measures m up ; item x : @1000000001 ;", 2)
        self.assert_fault_at("measures m up ; item x : -@" + "9" * 4000 + " ;", 2)
        self.assert_fault_at("measures m up ; item x : @1000000000 ;", 7)

    def test_a_needless_zero(self):
        for zeros in ("00", "01", "0000000001", "007"):
            self.assert_fault_at(f"measures m up ; item x : -@{zeros} ;", 2)

    def test_a_byte_that_begins_no_token(self):
        for byte in sorted(set(range(256)) - set(b" \t\n#,:;-") - set(range(48, 58))
                           - set(range(65, 91)) - set(range(97, 123))):
            text = list(b"measures m up ; ")
            self.assertEqual(loaded(text + [byte]), [0, 2, len(text)], byte)

    def test_inside_a_name_too(self):
        self.assert_fault_at("measures a@_b up ;", 2)

    def test_the_first_one_is_told(self):
        self.assert_fault_at("measures m @! up ? ;", 2)

    def test_anywhere_before_3_to_7(self):
        self.assert_fault_at("; @!", 2)
        self.assert_fault_at(FOUR + ", e up ; @!", 2)
        self.assert_fault_at("measures a up, a up ; @01", 2)
        self.assert_fault_at("measures a up ; item x : 1001 ; @A2345678901234567", 2)

    def test_not_in_a_remark(self):
        self.assertEqual(loaded("measures m up ; # ! 007 A2345678901234567"), [1, 1, 0])


class Fault3(Faults):

    def test_the_empty_text(self):
        self.assert_fault("", 3, 0)

    def test_a_text_without_tokens(self):
        self.assert_fault(" \t\n# remark", 3, 11)

    def test_at_the_texts_end(self):
        whole = "measures a up , b down ; item x : - 1 , 2 ; "
        rights = [len("measures a up , b down ; "), len(whole)]
        for place in range(len(whole) + 1):
            text = whole[:place]
            if text.endswith(" ") and place not in rights:
                self.assert_fault(text, 3, place)
                self.assert_fault(text + "# till the end", 3, place + 14)
        for place in rights:
            self.assertEqual(loaded(whole[:place])[0], 1)

    def test_a_word_where_a_name_has_to_stand(self):
        for word in ("measures", "up", "down", "item"):
            self.assert_fault_at(f"measures @{word} up ;", 3)
            self.assert_fault_at(f"measures a up, @{word} up ;", 3)
            self.assert_fault_at(f"measures a up ; item @{word} : 1 ;", 3)

    def test_each_token_where_another_has_to_stand(self):
        tokens = "measures a up , b down ; item x : - 1 , 2 ;".split()
        allowed = [
            {"measures"}, {"z"}, {"up", "down"}, {",", ";"}, {"z"}, {"up", "down"}, {",", ";"},
            {"item"}, {"z"}, {":"}, {"-", "5"}, {"5"}, {","}, {"-", "5"}, {";"}, {"item"},
        ]
        for place, right in enumerate(allowed):
            for wrong in {"measures", "up", "down", "item", "z", "5", ",", ":", ";", "-"} - right:
                self.assert_fault_at(" ".join(tokens[:place] + ["@" + wrong] + tokens[place:]), 3)

    def test_too_few_values(self):
        self.assert_fault_at("measures a up, b up ; item x : 1 @;", 3)

    def test_too_many_values(self):
        self.assert_fault_at("measures a up, b up ; item x : 1, 2@, 3 ;", 3)
        self.assert_fault_at(FOUR + "; item x : 1, 2, 3, 4@, 5 ;", 3)

    def test_two_signs(self):
        self.assert_fault_at("measures a up ; item x : -@-1 ;", 3)

    def test_the_first_one_is_told(self):
        self.assert_fault_at("measures a up @: : ;", 3)

    def test_a_fault_further_left_comes_first(self):
        self.assert_fault_at("measures a up, @a up : ;", 5)
        self.assert_fault_at("measures a up @: , a up ;", 3)
        self.assert_fault_at("measures a up ; item x : @1001 : item x : 1 ;", 7)
        self.assert_fault_at("measures a up ; item x : 1 ; item @x : 1001 ;", 5)


class Fault4(Faults):

    def test_a_fifth_measure(self):
        self.assert_fault_at(FOUR + ", @e up ;", 4)

    def test_the_comma_ahead_of_it_is_allowed(self):
        self.assert_fault_at(FOUR + ", @", 3)
        self.assert_fault_at(FOUR + ", @; item x : 1, 2, 3, 4 ;", 3)
        self.assert_fault_at(FOUR + ", @up ;", 3)

    def test_a_seventeenth_item(self):
        self.assert_fault_at(items(16) + " @item z : 1 ;", 4)
        self.assert_fault_at(items(16) + " @item", 4)

    def test_another_token_behind_the_sixteenth_item(self):
        self.assert_fault_at(items(16) + " @z", 3)

    def test_before_5_at_one_token(self):
        self.assert_fault_at(FOUR + ", @a up ;", 4)

    def test_a_seventeenth_item_before_its_name(self):
        self.assert_fault_at(items(16) + " @item n0 : 1 ;", 4)


class Fault5(Faults):

    def test_a_measures_name(self):
        self.assert_fault_at("measures a up, @a up ;", 5)
        self.assert_fault_at("measures a up, b up, c up, @b down ;", 5)

    def test_an_items_name(self):
        self.assert_fault_at("measures a up ; item x : 1 ; item @x : 1 ;", 5)
        self.assert_fault_at(items(15) + " item @n0 : 1 ;", 5)

    def test_a_name_that_only_begins_alike(self):
        self.assertEqual(loaded("measures a up, ab up, a1 up ;"), [1, 3, 0])


class Fault7(Faults):

    def test_1001(self):
        self.assert_fault_at("measures a up ; item x : @1001 ;", 7)
        self.assert_fault_at("measures a up ; item x : -@1001 ;", 7)
        self.assert_fault_at("measures a up, b up ; item x : 1000, - @1001 ;", 7)

    def test_3_comes_before_it_at_one_token(self):
        self.assert_fault_at("measures @1001 up ;", 3)
        self.assert_fault_at("measures a up ; item x : 1 @1001 ;", 3)


class WhatLoadChanges(unittest.TestCase):

    def test_a_load_that_fails_changes_nothing(self):
        text = list_text(["up", "up"], [[4, 0], [0, 4], [3, 3]])
        before = [load(text), bound(0, 1, 1000), begin(0, 1), like(2, 0)]
        behind = [like(0, 0), bound(1, 0, 1000)]
        for wrong in ("", "!", " " * 5000, "measures a up, a up ;"):
            told = run(*before, load(wrong), *behind)
            self.assertEqual(told[:4] + told[5:], run(*before, *behind))
            self.assertEqual(told[5], [1, 0, 1, 3, 4, 1])

    def test_a_first_load_that_fails_holds_no_list(self):
        self.assertEqual(run(load("!"), bound(0, 0, 0)), [[0, 2, 0], [-1]])

    def test_a_right_load_leaves_no_wishes_of_before(self):
        text = list_text(["up", "up"], [[4, 0], [0, 4], [3, 3]])
        told = run(load(text), bound(0, 4, 4), begin(0, 1), like(0, 1),
                   load(text), like(0, 1), bound(1, -1000, 1000), begin(0, 1), like(0, 0))
        self.assertEqual(told[4:], [[1, 2, 3], [-5], [3], [1, 3], [1, 0, 1, 1, 1, 3]])

    def test_a_right_load_leaves_no_list_of_before(self):
        told = run(load(FOUR + "; item x : 1, 2, 3, 4 ;"), load("measures a up ;"),
                   bound(1, 0, 0), bound(0, 0, 0))
        self.assertEqual(told, [[1, 4, 1], [1, 1, 0], [-3], [0]])


if __name__ == "__main__":
    unittest.main()
