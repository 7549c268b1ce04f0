"""Point [13]: the desk."""

import re
import unittest

from hiddenforks import branches, faults, forks, hall, keeping, more
from hiddenforks.data import is_story
from hiddenforks.desk import answers
from hiddenforks.errors import BadLine, BadStory, NoLook
from hiddenforks.texts import story_in, story_text, timetable_text

from lines import NUMBER, SIGNS, STRANGE, changed, random_story, told_event, told_story, told_timetable
from support import (APART, DRAWN, FAR, HEARD, KINDS, LINE, TABLE, TWICE, chance, check_error, large_tables, look_list,
                     random_table, unlike)

PAIR = f"{NUMBER}\\+{NUMBER}"
MEND = re.compile(f"mend ({PAIR}(?: {PAIR})*) by ([^,]*(?:, [^,]*)*)")
TWO_LOOKS = re.compile(f"(hidden|fork|seen|liars|lost) ({NUMBER}) ({NUMBER})")


def sheet(table, kind, *requests):
    return "\n".join([timetable_text(table), "", kind, *requests])


def told_request(people, line):
    """What a line asks for, None if it is not so written."""
    if told_event(people, line):
        return told_event(people, line)
    if line in ("pairs", "branches"):
        return (line,)
    if re.fullmatch(f"kept {NUMBER}", line):
        return "kept", int(line[5:])
    if TWO_LOOKS.fullmatch(line):
        word, i, j = line.split()
        return None if i == j else (word, int(i), int(j))
    if line.startswith("notice "):
        return None if told_story(line[7:]) is None else ("notice", told_story(line[7:]))
    found = MEND.fullmatch(line)
    if found:
        pairs = [tuple(map(int, word.split("+"))) for word in found[1].split()]
        events = [told_event(people, part) for part in found[2].split(", ")]
        return None if None in events or any(i >= j for i, j in pairs) else ("mend", pairs, events)
    return None


def told_sheet(text):
    """The timetable, the kind and the requests of a sheet; or the number of its first wrong line."""
    lines = text.split("\n")
    end = lines.index("") if "" in lines else len(lines)
    table, wrong = told_timetable("\n".join(lines[:end]))
    if wrong is not None:
        return wrong
    if len(lines) < end + 2:
        return len(lines)
    if lines[end + 1] not in KINDS:
        return end + 1
    requests = [told_request(table[0], line) for line in lines[end + 2:]]
    return requests.index(None) + end + 2 if None in requests else (table, lines[end + 1], requests)


def items(parts, mark=" "):
    return mark.join(map(str, parts)) or "-"


def told_answer(table, kind, request):
    """The answer that the table of the document tells, by the functions that it names."""
    word, *asked = request
    try:
        if word == "pairs":
            return items(f"{i}+{j}" for i, j in forks.hidden_pairs(table, kind))
        if word == "hidden":
            return "yes" if forks.hidden(table, kind, *asked) else "no"
        if word == "seen":
            place = forks.seen_at(table, kind, *asked)
            return "never" if place is None else str(place)
        if word == "notice":
            found = hall.noticed_at(table, kind, *asked)
            return "never" if found is None else items((found[0],) + found[1])
        if word == "kept":
            return items(keeping.kept_from(table, kind, *asked))
        if word in ("liars", "lost"):
            found = (faults.least_liars if word == "liars" else faults.least_lost)(table, kind, *asked)
            return "impossible" if found is None else items(found)
        if word == "branches":
            return items(branches.most_branches(table, kind))
        found = more.mend(table, kind, *asked)
        return "impossible" if found is None else items((items(event) for event in found), ", ")
    except NoLook:
        return "refused NoLook"
    except BadStory:
        return "refused BadStory"


def line_of(request):
    """The line in which a request stands."""
    word, *asked = request
    if word == "notice":
        return f"notice {story_text(asked[0])}"
    if word == "mend":
        pairs, events = asked
        return f"mend {items(f'{i}+{j}' for i, j in pairs)} by {items((items(event) for event in events), ', ')}"
    return items(request)


def random_pair(dice, looks):
    """Two unlike looks, now and then one that is not there."""
    return tuple(dice.sample(range(looks + dice.choice([0, 0, 0, 0, 1, 9]) + 2 * (looks < 2)), 2))


def some_story(dice, table):
    """Any story, by form alone, or one that is seen or not seen."""
    looks = range(len(look_list(table)))
    hiding = [forks.fork(table, "short", i, j) for i, j in forks.hidden_pairs(table, "short")[:2]]
    return dice.choice([tuple((1000,) for _ in looks), tuple((1000 + look,) for look in looks), random_story(dice),
                        *hiding])


def random_request(dice, table):
    people, looks = table[0], len(look_list(table))
    event = random_table(dice, people, 1, 1, 2)[1]
    word = dice.choice(["event", "pairs", "hidden", "fork", "seen", "notice", "kept", "liars", "lost", "branches",
                        "mend"])
    if word == "event":
        return event[0]
    if word in ("pairs", "branches"):
        return (word,)
    if word == "kept":
        return word, dice.randrange(looks + 2)
    if word == "notice":
        return word, some_story(dice, table)
    if word == "mend":
        pairs = [tuple(sorted(random_pair(dice, looks))) for _ in range(dice.randrange(1, 3))]
        return word, pairs, list(event[:dice.randrange(1, 4)])
    return word, *random_pair(dice, looks)


def random_sheet(dice, most=8):
    """A timetable, a kind and requests that keep within the bounds."""
    table = random_table(dice, dice.randrange(2, 6), dice.randrange(5), dice.randrange(3), dice.randrange(4))
    requests, now = [], table
    while len(requests) < most:
        request = random_request(dice, now)
        if request[0] in ("look", "add", "meet", "tell"):
            if len(now[1]) > 11 or len(look_list(now)) > 5 or len([e for e in now[1] if e[0] in ("meet", "tell")]) > 5:
                continue
            now = more.behind(now, [request])
        requests.append(request)
    return table, dice.choice(KINDS), requests


class Answers(unittest.TestCase):

    def check_answers(self, table, kind, requests):
        got = answers(sheet(table, kind, *map(line_of, requests)))
        self.assertIs(type(got), list)
        self.assertEqual(len(got), len(requests))
        for request, answer in zip(requests, got):
            self.assertIs(type(answer), str)
            if request[0] in ("look", "add", "meet", "tell"):
                self.assertEqual(answer, "done")
                table = more.behind(table, [request])
            elif request[0] == "fork":
                self.check_fork(table, kind, request, answer)
            else:
                self.assertEqual(answer, told_answer(table, kind, request), (table, kind, request))
        return got

    def check_fork(self, table, kind, request, answer):
        _, i, j = request
        if not {i, j} <= set(range(len(look_list(table)))):
            self.assertEqual(answer, "refused NoLook")
        elif not forks.hidden(table, kind, i, j):
            self.assertEqual(answer, "no")
        else:
            story = story_in(answer)
            self.assertTrue(is_story(table, story) and hall.is_unseen(table, kind, story))
            self.assertTrue(unlike(story[i], story[j]))
            self.assertEqual(story_text(story), answer)

    def test_each_answer_against_its_function(self):
        dice = chance(111)
        said = {}
        for _ in range(400):
            table, kind, requests = random_sheet(dice)
            for request, answer in zip(requests, self.check_answers(table, kind, requests)):
                said.setdefault(request[0], []).append(answer)
        for word in ("pairs", "hidden", "seen", "kept", "branches", "notice", "liars", "lost", "mend", "fork"):
            self.assertGreater(len(set(said[word])), 2, word)
        self.assertEqual(set(said["hidden"]), {"yes", "no", "refused NoLook"})
        for word, few in (("notice", {"never", "refused BadStory"}), ("seen", {"never", "refused NoLook"}),
                          ("liars", {"impossible", "-", "refused NoLook"}),
                          ("lost", {"impossible", "-", "refused NoLook"}),
                          ("mend", {"impossible", "-", "refused NoLook"}), ("fork", {"no", "refused NoLook"}),
                          ("pairs", {"-"}), ("branches", {"-"}), ("kept", {"refused NoLook"})):
            self.assertLessEqual(few, set(said[word]), word)

    def test_of_the_document_s_timetables(self):
        requests = [("pairs",), ("branches",), ("kept", 0), ("kept", 1), ("kept", 2)]
        requests += [(word, i, j) for word in ("hidden", "fork", "seen", "liars", "lost")
                     for i, j in ((0, 1), (1, 0), (2, 1))]
        for table in (TABLE, DRAWN, HEARD, TWICE, FAR, APART):
            for kind in KINDS:
                self.check_answers(table, kind, requests)

    def test_the_words_of_the_answers(self):
        for kind, request, answer in (("long", "pairs", "0+1 0+2 0+3 1+2 1+3 2+3"), ("short", "branches", "0 1 2 3"),
                                      ("long", "hidden 3 0", "yes"), ("long", "seen 0 1", "never"),
                                      ("long", "liars 0 1", "-"), ("short", "lost 0 1", "-"),
                                      ("long", "kept 2", "0 1 3"), ("long", "notice -; -; -; -", "never"),
                                      ("long", "notice 1000; 1001; -; 5000", "never"),
                                      ("long", "notice 0; -; -; -", "refused BadStory"),
                                      ("long", "notice none", "refused BadStory"),
                                      ("long", "notice -; -; -", "refused BadStory"),
                                      ("long", "kept 4", "refused NoLook"), ("long", "mend 0+1 by add 0", "impossible"),
                                      ("long", "mend 0+1 by meet 2 3, tell 1 0", "tell 1 0"),
                                      ("long", "mend 0+3 0+1 by meet 2 3, meet 0 1, meet 1 2",
                                       "meet 0 1, meet 1 2, meet 2 3"),
                                      ("short", "mend 0+3 by meet 2 3, meet 0 1, meet 1 2", "impossible"),
                                      ("long", "mend 0+4 by add 0", "refused NoLook")):
            self.assertEqual(answers(sheet(APART, kind, request)), [answer], request)

    def test_the_words_of_the_answers_when_something_is_seen(self):
        for request, answer in (("pairs", "-"), ("hidden 0 1", "no"), ("fork 1 0", "no"), ("seen 1 0", "2"),
                                ("liars 0 1", "impossible"), ("lost 0 1", "2 3"), ("branches", "0"),
                                ("notice 1000; 1001", "2 0 1"), ("kept 0", "-"), ("kept 1", "-"),
                                ("mend 0+1 by meet 0 1", "-"), ("mend 0+1 0+1 by look 0", "-")):
            self.assertEqual(answers(sheet(TWICE, "long", request)), [answer], request)
        for request, answer in (("pairs", "-"), ("branches", "-"), ("notice none", "never"),
                                ("notice -", "refused BadStory"), ("hidden 0 1", "refused NoLook"), ("look 0", "done")):
            self.assertEqual(answers(sheet((1, ()), "short", request)), [answer], request)

    def test_no_requests(self):
        for table in (APART, (1, ()), LINE):
            for kind in KINDS:
                self.assertEqual(answers(sheet(table, kind)), [])

    def test_an_event_and_what_is_asked_behind_it(self):
        text = sheet((2, ()), "long", "hidden 0 1", "look 0", "hidden 0 1", "look 1", "hidden 0 1", "seen 0 1",
                     "meet 1 0", "hidden 0 1", "seen 0 1", "notice 1000; 1001", "add 1", "look 1",
                     "notice 1000; 1000; 0", "notice 1000; 1000; 1000,0", "pairs")
        self.assertEqual(answers(text), ["refused NoLook", "done", "refused NoLook", "done", "yes", "never", "done",
                                         "no", "2", "2 0 1", "done", "done", "4 1", "never", "-"])

    def test_what_a_sheet_does_stays_in_it(self):
        text = sheet(FAR, "long", "pairs", "meet 0 1", "pairs")
        for _ in range(2):
            got = answers(text)
            self.assertEqual(got, ["0+1 0+2", "done", "-"])
            got.append("mine")

    def test_looks_that_are_not_there(self):
        for request in ("hidden 0 9", "hidden 9 0", "fork 4 5", "seen 99999 0", "liars 0 4", "lost 4 0", "kept 99999",
                        "mend 0+9 by look 0", "mend 0+1 2+3 3+4 by look 0", "mend 7+9 by meet 0 1"):
            self.assertEqual(answers(sheet(APART, "long", request, "branches")), ["refused NoLook", "0 1 2 3"], request)


class BadLines(unittest.TestCase):

    def check_wrong(self, text, number):
        check_error(self, BadLine, number, answers, text)

    def check_request(self, line):
        """Wrong alone, behind others that are right, and ahead of others that are wrong."""
        self.check_wrong(sheet(APART, "long", line), 7)
        self.check_wrong(sheet(APART, "short", "pairs", "kept 9", "hidden 0 1", line), 10)
        self.check_wrong(sheet(APART, "long", "look 0", line, "branches", "", line), 8)

    def test_without_the_empty_line_or_the_kind(self):
        self.check_wrong("", 0)
        self.check_wrong("people 2", 1)
        self.check_wrong("people 2\nlook 0", 2)
        self.check_wrong("people 2\n", 2)
        self.check_wrong("people 2\nlook 0\n", 3)
        self.check_wrong(timetable_text(LINE), 12)
        self.check_wrong(timetable_text(LINE) + "\n", 13)
        self.check_wrong("\n".join(["people 2"] + ["look 0"] * 59), 60)

    def test_wrong_ahead_of_what_is_missing(self):
        for text, number in (("\n", 0), ("\n\nlong", 0), ("long", 0), ("people 0", 0), ("people 2\nlook 2", 1),
                             ("people 2\nlong", 1), ("people 2\nlook 0\nlong\npairs", 2),
                             ("people 2\nlook 0\npairs", 2), ("people 2\n\n", 2), ("people 2\n\n\nlong", 2),
                             ("people 2\nlook 5\n\nlonger", 1), ("people 2\npeople 2\n\nlong", 1), (" \n\nlong", 0),
                             ("people 2\n \nlong", 1)):
            self.check_wrong(text, number)

    def test_the_kind(self):
        for kind in ("Long", "LONG", "long ", " long", "longer", "shor", "short long", "pairs", "look 0", "-", "0",
                     "kind long", "long\t"):
            self.check_wrong(sheet(APART, kind), 6)
            self.check_wrong(sheet(APART, kind, "pairs", ""), 6)

    def test_bare_lines(self):
        self.check_request("")
        self.check_request(" ")
        self.check_wrong(sheet(APART, "long") + "\n", 7)
        self.check_wrong(sheet(APART, "long", "pairs") + "\n", 8)
        self.check_wrong(sheet(APART, "long", "pairs", "", "pairs"), 8)

    def test_the_same_look_twice(self):
        for word in ("hidden", "fork", "seen", "liars", "lost"):
            for look in (0, 3, 9):
                self.check_request(f"{word} {look} {look}")
        for pair in ("0+0", "9+9", "0+1 1+1"):
            self.check_request(f"mend {pair} by meet 0 1")

    def test_words_and_numbers(self):
        for word in ("hidden", "fork", "seen", "liars", "lost"):
            for rest in ("", " ", " 0", " 0 ", " 0  1", "  0 1", " 0 1 ", " 0 1 2", " 0 01", " 00 1", " 0 -1", " 0 +1",
                         " a 1", " 0,1", " 0+1", " 0 100000", " 0\t1", "0 1", " 0 1, 1 2", " - -"):
                self.check_request(word + rest)
            for line in (f" {word} 0 1", f"{word}s 0 1", f"{word.upper()} 0 1", f"{word[:-1]} 0 1"):
                self.check_request(line)
        for word in ("pairs", "branches"):
            for line in (word + " ", " " + word, word + " 0", word + " 0 1", word + " -", word[:-1], word.title(),
                         word + "\t"):
                self.check_request(line)
        for rest in ("", " ", " 0 ", " 0 1", "  0", " 00", " 01", " -1", " +0", " a", " 100000", "0", " -", " 0,1"):
            self.check_request("kept" + rest)

    def test_events(self):
        for line in ("look", "look 4", "look 0 1", "add 4", "add 99", "add", "meet 0 0", "meet 0 4", "meet 4 0",
                     "meet 0", "meet 0 1 2", "tell 3 3", "tell 3 4", "tell 0  1", "tell 0 1 ", " tell 0 1",
                     "meet 0 1, meet 1 2", "people 4", "done", "none", "-", "long", "put 0"):
            self.check_request(line)

    def test_notice(self):
        for rest in ("", " ", "  -; -; -; -", " -; -; -; - ", " -;-;-;-", " 1,1; -; -; -", " -; -; -; 5,6,5",
                     " 01; -; -; -", " 100000; -; -; -", " -; -; -; ", " none; -", " None", "none", " -1; -; -; -",
                     " 1, 2; -; -; -"):
            self.check_request("notice" + rest)

    def test_mend(self):
        for rest in ("", " ", " 0+1", " 0+1 by", " 0+1 by ", " by meet 0 1", "  by meet 0 1", " 0+1 meet 0 1",
                     " 1+0 by meet 0 1", " 0+1 2+1 by meet 0 1", " 0+1  0+2 by meet 0 1", " 0+1, 0+2 by meet 0 1",
                     " 0+1,0+2 by meet 0 1", " 0 1 by meet 0 1", " 0+1+2 by meet 0 1", " 0 + 1 by meet 0 1",
                     " 0+01 by meet 0 1", " 0+ by meet 0 1", " +1 by meet 0 1", " 0-1 by meet 0 1", " 0+1 by  meet 0 1",
                     " 0+1  by meet 0 1", " 0+1 by meet 0 1,meet 1 2", " 0+1 by meet 0 1 , meet 1 2",
                     " 0+1 by meet 0 1,  meet 1 2", " 0+1 by meet 0 1 meet 1 2", " 0+1 by meet 0 1, ",
                     " 0+1 by , meet 0 1", " 0+1 by meet 0 4", " 0+1 by meet 0 1, look 4", " 0+1 by meet 1 1",
                     " 0+1 by meet 0 1 by meet 1 2", " 0+1 by meet 0 1, by", " 0+1 by meet 0 1 ", " 0+1 BY meet 0 1",
                     " 0+100000 by meet 0 1", " 0+1 by pairs", "  0+1 by meet 0 1"):
            self.check_request("mend" + rest)

    def test_nothing_is_answered_ahead_of_a_wrong_line(self):
        """Not even that a request is refused."""
        self.check_wrong(sheet(APART, "long", "kept 9", "notice none", "look 0", "pairs", "x"), 11)
        self.check_wrong(sheet(APART, "long", *["hidden 0 1"] * 52, "hidden 0 0"), 59)

    def test_people_below_the_number_of_people_whatever_comes_behind(self):
        self.check_wrong(sheet((2, ()), "long", "look 0", "look 1", "meet 0 2"), 5)
        self.assertEqual(answers(sheet((12, ()), "long", "look 11", "meet 10 11")), ["done", "done"])

    def test_strange_signs(self):
        for line in ("pairs", "hidden 0 1", "notice -; -; -; -", "mend 0+1 by meet 0 1", "meet 0 1"):
            for sign in STRANGE:
                for at in range(len(line) + 1):
                    self.check_wrong(sheet(APART, "long", "pairs", line[:at] + sign + line[at:]), 8)

    def test_changed_sheets(self):
        dice = chance(112)
        said = [0, 0]
        checker = Answers()
        for _ in range(10000):
            table, kind, requests = random_sheet(dice, 3)
            text = changed(dice, sheet(table, kind, *map(line_of, requests)), SIGNS + "+bysfh")
            want = told_sheet(text)
            wrong = isinstance(want, int)
            said[wrong] += 1
            if wrong:
                self.check_wrong(text, want)
            elif want[0][0] < 9 and said[False] < 300:
                checker.check_answers(*want)
                self.assertEqual(text, sheet(want[0], want[1], *map(line_of, want[2])))
        self.assertGreater(min(said), 150)

    def test_the_other_reading_of_sheets_reads_right_ones(self):
        dice = chance(113)
        for _ in range(200):
            table, kind, requests = random_sheet(dice)
            self.assertEqual(told_sheet(sheet(table, kind, *map(line_of, requests))), (table, kind, requests))


class Bounds(unittest.TestCase):

    def test_sixty_lines(self):
        for table in list(large_tables(114, 3)):
            left = 60 - len(table[1]) - 3
            cheap = ["pairs", "hidden 0 1", "seen 2 0", "branches", "fork 0 3", "kept 1",
                     "notice " + story_text(((1000, ), ) * 5)]
            lines = (cheap * 9)[:left]
            for kind in KINDS:
                text = sheet(table, kind, *lines)
                self.assertEqual(len(text.split("\n")), 60)
                got = answers(text)
                self.assertEqual(got, [got[at % len(cheap)] for at in range(left)])

    def test_liars_and_lost_at_their_bound(self):
        table = (6, tuple([("look", k) for k in range(6)] + [("meet", k % 5, k % 5 + 1) for k in range(6)]))
        for kind in KINDS:
            Answers().check_answers(table, kind, [(word, i, 5 - i) for word in ("liars", "lost") for i in range(6)] * 2)

    def test_lines_of_two_hundred_signs(self):
        pairs = " ".join(["0+1", "0+2", "1+2", "3+4", "2+5"] * 8)
        line = f"mend {pairs} by meet 0 1, meet 1 2, meet 3 4"
        self.assertLessEqual(len(line), 200)
        six = (6, tuple(("look", k) for k in range(6)))
        self.assertEqual(answers(sheet(six, "long", line, line.replace(" 2+5", ""))),
                         ["impossible", "meet 0 1, meet 1 2, meet 3 4"])
        story = tuple(tuple(range(1000 + 6 * k, 1006 + 6 * k)) for k in range(6))
        text = "notice " + story_text(story)
        self.assertGreater(len(text), 180)
        self.assertEqual(answers(sheet(six, "long", text, "meet 0 5", text)), ["never", "done", "6 0 5"])
        for long_one in ("pairs" + " " * 195, "x" * 200, "notice " + "-; " * 64, "mend " + "0+1 " * 48, "0" * 200,
                         "kept " + "0" * 195):
            check_error(self, BadLine, 9, answers, sheet(six, "long", long_one))


if __name__ == "__main__":
    unittest.main()
