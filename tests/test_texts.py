"""Point [12]: timetables and stories as texts."""

import unittest

from hiddenforks.data import is_head, is_timetable
from hiddenforks.errors import BadText
from hiddenforks.texts import story_in, story_text, timetable_in, timetable_text

from lines import STRANGE, changed, random_story, told_story, told_text, told_timetable
from support import DRAWN, FAR, HEARD, LINE, TABLE, TWICE, chance, check_error, large_tables, listed, random_table


class Timetables(unittest.TestCase):

    def check_wrong(self, text, line):
        check_error(self, BadText, line, timetable_in, text)

    def test_written(self):
        self.assertEqual(timetable_text(TABLE), "people 3\nlook 0\nlook 1\nmeet 0 2\nadd 2\nlook 2\nmeet 1 2")
        self.assertEqual(timetable_text((1, ())), "people 1")
        self.assertEqual(timetable_text(listed(FAR)), timetable_text(FAR))

    def test_both_ways(self):
        dice = chance(101)
        tables = [TABLE, DRAWN, HEARD, TWICE, LINE, FAR, (1, ()), (99999, (("tell", 99998, 0), ("add", 10000)))]
        tables += list(large_tables(102, 5)) + [random_table(dice, dice.randrange(1, 13), 3, 3, 4) for _ in range(100)]
        for table in tables:
            self.assertEqual(timetable_in(timetable_text(table)), table)
            self.assertEqual(timetable_in(timetable_text(listed(table))), table)
            self.assertTrue(is_timetable(timetable_in(timetable_text(table))))

    def test_people_first_and_alone(self):
        for text in ("", "\n", "people", "people ", "people 0", "people 01", "people 00", "people +1", "people -1",
                     "people 1 ", " people 1", "people  1", "people 1 2", "People 1", "people\t1", "people1",
                     "people 1.0", "people one", "people 100000", "people 010000", "look 0", "3", "people 1\r",
                     "people\n1", "add 0\npeople 1", "\npeople 1", "people ,1", "people 1,", "peoples 1", "people 1_0",
                     "none"):
            self.check_wrong(text, 0)
        self.check_wrong("people 2\npeople 2", 1)
        self.check_wrong("people 2\nlook 0\npeople 3\nlook 2", 2)

    def test_numbers_of_people(self):
        for many in (1, 9, 10, 12345, 99999):
            self.assertEqual(timetable_in(f"people {many}"), (many, ()))
            last = many - 1
            self.assertEqual(timetable_in(f"people {many}\nadd {last}"), (many, (("add", last),)))
            self.check_wrong(f"people {many}\nadd {many}", 1)

    def test_wrong_events(self):
        for line in ("", " ", "look", "look ", "look  0", " look 0", "look 0 ", "look 0 1", "look 00", "look 01",
                     "look +0", "look -0", "look -1", "look 3", "look 99999", "look 100000", "look 000000", "look a",
                     "look x", "look 1x", "look /", "look :", "look 0,", "look 0.", "Look 0", "looks 0", "look,0",
                     "look\t0", "look 0\r", "look0", "add", "add 3", "add 0 1", "meet 0", "meet 0 ", "meet 0  1",
                     "meet 0 1 ", "meet 0 1 2", "meet  0 1", "meet 0 0", "meet 1 1", "meet 0 3", "meet 3 0", "meet 0,1",
                     "meet 0+1", "meet 0 01", "meet 01 0", "tell", "tell 2", "tell 2 2", "tell 0 3", "tell 0 1 ",
                     "TELL 0 1", "people 3", "long", "-", "none", "0", "0 1", "see 0", "meet 0 1, meet 1 2", "done"):
            self.check_wrong("people 3\n" + line, 1)
            self.check_wrong("people 3\nlook 2\nmeet 0 1\n" + line + "\nlook 0", 3)
            self.check_wrong("people 3\n" + line + "\n" + line, 1)

    def test_an_empty_line_also_at_the_end(self):
        self.check_wrong("people 3\n", 1)
        self.check_wrong("people 3\nlook 0\n", 2)
        self.check_wrong("people 3\n\nlook 0", 1)
        self.check_wrong("people 3\nlook 0\n\n", 2)

    def test_the_first_wrong_line_decides(self):
        self.check_wrong("people 0\nlook 9\n", 0)
        self.check_wrong("people 3\nlook 0\nlook 3\nmeet 1 1\n", 2)
        self.check_wrong("people 3\n" + "look 0\n" * 58 + "look 3", 59)

    def test_strange_signs(self):
        text = timetable_text(TABLE)
        for sign in STRANGE:
            for at in range(len(text) + 1):
                self.check_wrong(text[:at] + sign + text[at:], text[:at].count("\n"))
                if at < len(text) and text[at] != "\n":
                    self.check_wrong(text[:at] + sign + text[at + 1:], text[:at].count("\n"))

    def test_changed_texts(self):
        dice = chance(103)
        said = [0, 0]
        for _ in range(15000):
            text = timetable_text(random_table(dice, dice.randrange(1, 13), 2, 1, 2))
            for _ in range(dice.randrange(1, 3)):
                text = changed(dice, text)
            want, line = told_timetable(text)
            said[want is None] += 1
            if want is None:
                self.check_wrong(text, line)
            else:
                self.assertEqual(timetable_in(text), want, text)
                self.assertEqual(timetable_text(want), text)
        self.assertGreater(min(said), 200)

    def test_at_the_bounds(self):
        lines = ["people 6"] + ["meet 0 5"] * 59
        self.assertEqual(timetable_in("\n".join(lines)), (6, (("meet", 0, 5),) * 59))
        for at in range(60):
            self.check_wrong("\n".join(lines[:at] + ["m" * 200] + lines[at + 1:]), at)
            self.check_wrong("\n".join(lines[:at] + [lines[at] + " " * 190] + lines[at + 1:]), at)
            self.check_wrong("\n".join(lines[:at] + ["0" * 200] + lines[at + 1:]), at)


class Stories(unittest.TestCase):

    def check_wrong(self, text):
        check_error(self, BadText, 0, story_in, text)

    def test_written(self):
        for story, text in (((), "none"), (((),), "-"), (((), ()), "-; -"), (((0,),), "0"),
                            (((1000,), (), (1000, 0)), "1000; -; 1000,0"), (((99999, 0, 10), (7,)), "99999,0,10; 7")):
            self.assertEqual(story_text(story), text)
            self.assertEqual(story_text(listed(story)), text)
            self.assertEqual(story_in(text), story)

    def test_both_ways(self):
        dice = chance(104)
        for _ in range(300):
            story = random_story(dice)
            self.assertEqual(story_in(story_text(story)), story)
            self.assertEqual(story_text(story_in(story_text(story))), told_text(story))
            self.assertTrue(all(is_head(head) for head in story_in(story_text(story))))

    def test_five_digits_at_most_and_no_leading_zero(self):
        for number in (0, 5, 10, 999, 1000, 10000, 99999):
            self.assertEqual(story_in(f"{number}"), ((number,),))
            self.assertEqual(story_in(f"-; 7777,{number}"), ((), (7777, number)))
        for word in ("100000", "123456", "00", "01", "000", "00000", "000001", "09", "+1", "-1", "1.", "1e3", "0x1",
                     "1_0", "x", "1x", "/", ":", "1 0"):
            for text in (word, f"{word},5", f"5,{word}", f"-; {word}", f"{word}; -"):
                self.check_wrong(text)

    def test_an_entry_twice(self):
        for text in ("0,0", "1000,1000", "5,6,5", "1; 2,3,4,3", "1,1; 2", "1000,0,1000"):
            self.check_wrong(text)
        self.assertEqual(story_in("5; 5; 5,6; 6,5"), ((5,), (5,), (5, 6), (6, 5)))

    def test_blanks_commas_and_semicolons(self):
        for text in ("", " ", "1 ", " 1", "1;2", "1 ;2", "1 ; 2", "1;  2", "1; ", "; 1", ";", "; ", "1;", "1; 2;",
                     "1; 2; ", "1; ; 2", ",", "1,", ",1", "1,,2", "1, 2", "1 ,2", "1 2", "1.2", "--", "-,1", "1,-",
                     "-;-", "- ; -", "-; - ", "-;  -"):
            self.check_wrong(text)

    def test_none_and_other_words(self):
        for text in ("None", "none ", " none", "none; none", "none; 1", "1; none", "none,1", "NONE", "no", "never",
                     "()", "((),)", "none\n", "\nnone", "1000\n", "\n", "-\n", "1\n2", "1; 2\n3"):
            self.check_wrong(text)

    def test_strange_signs(self):
        text = "1000; -; 1000,0"
        for sign in STRANGE:
            for at in range(len(text) + 1):
                self.check_wrong(text[:at] + sign + text[at:])
                self.check_wrong(text[:at] + sign + text[at + 1:])

    def test_changed_texts(self):
        dice = chance(105)
        said = [0, 0]
        for _ in range(8000):
            text = story_text(random_story(dice))
            for _ in range(dice.randrange(1, 3)):
                text = changed(dice, text, " 0123456789,;-n\n")
            want = told_story(text)
            said[want is None] += 1
            if want is None:
                self.check_wrong(text)
            else:
                self.assertEqual((story_in(text), story_text(want)), (want, text))
        self.assertGreater(min(said), 500)

    def test_by_form_alone(self):
        """Neither a timetable nor what was added is asked for."""
        self.assertEqual(story_in("0,1,2,500; 999; 77777"), ((0, 1, 2, 500), (999,), (77777,)))

    def test_at_the_bounds(self):
        text = ",".join(map(str, range(1000, 1040)))
        self.assertEqual(len(text), 199)
        self.assertEqual(story_in(text), (tuple(range(1000, 1040)),))
        self.assertEqual(story_in("; ".join(["-"] * 67)), ((),) * 67)
        for text in ("0" * 200, "1" * 200, "-" * 200, "1," * 100, "; " * 100, " " * 200, "1000," * 40, "~" * 200):
            self.check_wrong(text)


if __name__ == "__main__":
    unittest.main()
