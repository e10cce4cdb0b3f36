"""Point 22: nets, kindlings and what happened as texts, and stories read back."""

import random
import re
import unittest

from emberlane.embers import Embers
from emberlane.errors import EmberError, NoKindlings, NoNet, NoText
from emberlane.nets import are_kindlings, is_net
from emberlane.texts import read_story, show_happened, show_kindlings, show_net
from tests.helpers import SIXTY_FIGURES, LawTest, bad_kindlings, bad_nets, go_through, some_cases_in_any_order, some_net

NET = ((2, 1), (30, 0), (400, None))
KINDLINGS = [(0, 2), (17, 0), (3, 1)]
NET_TEXT = "lamp 2 to 1\nlamp 30 to 0\nlamp 400 to -\n"
STORY = NET_TEXT + "kindle 0 2\nkindle 17 0\nkindle 3 1\n"

TWELVE_ROWS = "".join(f"lamp {at + 1} to {(at + 5) % 12}\n" for at in range(12))

LAMP_ROW = re.compile(r"lamp ([1-9][0-9]*) to (-|0|[1-9][0-9]*)")
KINDLE_ROW = re.compile(r"kindle (0|[1-9][0-9]*) (0|[1-9][0-9]*)")


def number_or_none(text):
    return None if text == "-" else int(text)


def goes_on(rows):
    """Whether some story begins with just these rows, by the words of the document."""
    lamps = [LAMP_ROW.fullmatch(row) for row in rows]
    many = lamps.index(None) if None in lamps else len(rows)
    nexts = [number_or_none(row[2]) for row in lamps[:many]]
    kindlings = [KINDLE_ROW.fullmatch(row) for row in rows[many:]]
    # Without a kindling there may come up to twelve lamps, and then one may lead to any of them.
    lamps_there = many if kindlings else 12
    if many > 12 or any(at is not None and at >= lamps_there for at in nexts):
        return False
    if None in kindlings or len(kindlings) > 40:
        return False
    return all(int(row[2]) < many for row in kindlings)


def read_by_words(text):
    """What is told of a text, or the row that is refused, row by row."""
    rows = text.split("\n")
    cut = rows.pop()
    for at in range(len(rows)):
        if not goes_on(rows[:at + 1]):
            return at + 1
    if cut:
        return len(rows) + (2 if goes_on(rows + [cut]) else 1)
    lamps = [LAMP_ROW.fullmatch(row) for row in rows]
    net = tuple((int(row[1]), number_or_none(row[2])) for row in lamps if row)
    kindlings = [(int(row[1]), int(row[2])) for row in map(KINDLE_ROW.fullmatch, rows) if row]
    return (net, kindlings) if is_net(net) else len(rows) + 1


class ShowTest(LawTest):
    def test_a_net(self):
        self.assertEqual(self.both_ways(show_net, net=NET), NET_TEXT)
        self.assertEqual(self.both_ways(show_net, net=((1, None),)), "lamp 1 to -\n")
        self.assertEqual(self.both_ways(show_net, net=((1, 0),)), "lamp 1 to 0\n")
        twelve = tuple((at + 1, (at + 5) % 12) for at in range(12))
        self.assertEqual(self.both_ways(show_net, net=twelve), TWELVE_ROWS)
        self.assertEqual(show_net(((SIXTY_FIGURES, None),)), "lamp " + "9" * 60 + " to -\n")

    def test_kindlings(self):
        self.assertEqual(self.both_ways(show_kindlings, net=NET, kindlings=KINDLINGS), (
            "kindle 0 2\nkindle 17 0\nkindle 3 1\n"))
        self.assertEqual(self.both_ways(show_kindlings, net=NET, kindlings=[]), "")
        self.assertEqual(show_kindlings(NET, [(SIXTY_FIGURES, 1)] * 40), ("kindle " + "9" * 60 + " 1\n") * 40)

    def test_what_happened(self):
        rows = [("ended", 7, 2, 0), ("lit", 0, 1, 12), ("lost", 30, 11, 4, 39)]
        self.assertEqual(self.both_ways(show_happened, rows=rows), "7 ended 2 0\n0 lit 1 12\n30 lost 11 4 to 39\n")
        self.assertEqual(self.both_ways(show_happened, rows=[]), "")
        for row, text in zip(rows, ("7 ended 2 0\n", "0 lit 1 12\n", "30 lost 11 4 to 39\n")):
            self.assertEqual(show_happened([row]), text)

    def test_what_an_embers_tells(self):
        embers = Embers(((1, 1), (2, None)))
        embers.kindle(1)
        embers.kindle(0)
        self.assertEqual(show_happened(embers.go(beats=3)), (
            "0 lit 0 1\n0 lit 1 0\n1 lost 1 1 to 0\n2 ended 1 0\n"))
        self.assertEqual(show_happened(embers.happened()), show_happened(embers.happened()))
        for net, kindlings in some_cases_in_any_order(111, 20):
            rows = go_through(net, sorted(kindlings), 60).happened()
            told = show_happened(rows)
            self.assertEqual(told.count("\n"), len(rows))
            for row, text in zip(rows, told.split("\n")):
                words = text.split(" ")
                self.assertEqual(words[1], row[0])
                self.assertEqual([int(word) for word in words[:1] + words[2:4] + words[5:]], list(row[1:]))
                self.assertEqual(words[4:5], ["to"] if row[0] == "lost" else [])

    def test_rows_of_sixty_figures(self):
        self.assertEqual(show_happened([("lost", 10 ** 70, 0, 1, 2)]), "1" + "0" * 70 + " lost 0 1 to 2\n")

    def test_nothing_is_changed(self):
        kindlings, rows = list(KINDLINGS), [("lit", 0, 1, 0)]
        show_kindlings(NET, kindlings)
        show_happened(rows)
        self.assertEqual((kindlings, rows), (KINDLINGS, [("lit", 0, 1, 0)]))

    def test_refusals(self):
        self.refuses_in_order(show_net, [("net", NET, bad_nets(), NoNet)])
        self.refuses_in_order(show_kindlings, [
            ("net", NET, bad_nets(), NoNet), ("kindlings", KINDLINGS, bad_kindlings(NET), NoKindlings)])


class ReadTest(LawTest):
    def reads(self, text, net, kindlings):
        told = self.both_ways(read_story, text=text)
        self.assertEqual(told, (net, kindlings))
        self.assertIsInstance(told, tuple)
        self.assertIsInstance(told[0], tuple)
        self.assertIsInstance(told[1], list)
        self.assertTrue(are_kindlings(told[0], told[1]))

    def no_text(self, text, row):
        for call in (lambda: read_story(text), lambda: read_story(text=text)):
            with self.assertRaises(EmberError) as caught:
                call()
            self.assertIs(type(caught.exception), NoText)
            self.assertEqual(caught.exception.row, row, text)
            self.assertIs(type(caught.exception.row), int)

    def agrees(self, text):
        """The text is told, or refused with its row, as the words of the document say."""
        wanted = read_by_words(text)
        if isinstance(wanted, int):
            self.no_text(text, wanted)
        else:
            self.reads(text, *wanted)

    def test_stories(self):
        self.reads(STORY, NET, KINDLINGS)
        self.reads(NET_TEXT, NET, [])
        self.reads("lamp 1 to -\n", ((1, None),), [])
        self.reads("lamp 1 to 0\nkindle 0 0\n", ((1, 0),), [(0, 0)])
        self.reads(TWELVE_ROWS, tuple((at + 1, (at + 5) % 12) for at in range(12)), [])
        self.reads(NET_TEXT + "kindle 5 1\n" * 40, NET, [(5, 1)] * 40)

    def test_written_and_read_back(self):
        dice = random.Random(112)
        for net, kindlings in some_cases_in_any_order(113, 200, 12, 40):
            self.reads(show_net(net) + show_kindlings(net, kindlings), net, kindlings)
        for _ in range(30):
            net = tuple((length * dice.randint(1, 10 ** 58), onward) for length, onward in some_net(dice, 12))
            kindlings = [(dice.randint(0, SIXTY_FIGURES), dice.randrange(len(net))) for _ in range(dice.randint(0, 25))]
            self.reads(show_net(net) + show_kindlings(net, kindlings), net, kindlings)
        net = ((SIXTY_FIGURES, 11),) * 12
        self.reads(show_net(net), net, [])
        self.reads(show_net(net) + show_kindlings(net, [(SIXTY_FIGURES, 11)] * 40), net, [(SIXTY_FIGURES, 11)] * 40)

    def test_what_is_read_is_written_as_it_was(self):
        for text in (STORY, NET_TEXT, TWELVE_ROWS):
            net, kindlings = read_story(text)
            self.assertEqual(show_net(net) + show_kindlings(net, kindlings), text)

    def test_the_text_without_signs(self):
        self.no_text("", 1)

    def test_blank_rows(self):
        self.no_text("\n", 1)
        self.no_text("\n" + STORY, 1)
        self.no_text(NET_TEXT + "\n", 4)
        self.no_text(STORY + "\n", 7)
        self.no_text(STORY + "\n\n", 7)
        self.no_text(STORY.replace("\n", "\n\n"), 2)
        self.no_text(" \n", 1)
        self.no_text(STORY + " ", 7)

    def test_a_sign_too_many_or_too_few(self):
        for row in ("lamp 2 to 1 ", " lamp 2 to 1", "lamp 2 to 1x", "lamps 2 to 1", "lamp 2 to", "lamp 2 to ",
                    "lamp 2 t 1", "lamp2 to 1", "lamp 2to 1", "lamp 2 to1", "amp 2 to 1", "Lamp 2 to 1", "lamp 2 TO 1",
                    "lamp 2 to 1.", "lamp 2, to 1", "lamp 2 to --", "lamp 2 to None", "lamp - to 1", "lamp 2 to +1",
                    "lamp +2 to 1", "lamp -2 to 1", "lamp 2 to -1", "lamp 2.0 to 1", "lamp 2_0 to 1", "lamp x to 1",
                    "lamp 2 to x", "lamp", "lamp ", "l", "lamp 2", "lamp 2 to 1 2", "lamp  to 1", "2 to 1", "2 1"):
            self.no_text(row + "\nlamp 30 to 0\nlamp 400 to -\n", 1)
            self.no_text("lamp 2 to 1\n" + row + "\nlamp 400 to -\n", 2)
            self.no_text(NET_TEXT + row + "\n", 4)
        for row in ("kindle 0 2 ", " kindle 0 2", "kindle 0 2x", "kindle 0", "kindle", "kindle 0 ", "kindl 0 2",
                    "kindle0 2", "kindle 02", "kindles 0 2", "Kindle 0 2", "kindle -1 2", "kindle 0 -", "kindle - 2",
                    "kindle 0 2 1", "kindle 0 to 2", "kindle 0.0 2", "kindle 1_0 2", "kindle x 2", "kindle 0 x",
                    "indle 0 2", "kindle  2", "kindle +1 2", "kindle 0,2", "0 2"):
            self.no_text(NET_TEXT + row + "\n", 4)
            self.no_text(STORY + row + "\n", 7)
            self.no_text(NET_TEXT + row + "\nkindle 17 0\n", 4)

    def test_two_blanks_and_tabs(self):
        for sign in ("  ", "\t", " \t", ""):
            for row in ("lamp 2 to 1", "lamp 30 to 0", "lamp 400 to -", "kindle 0 2", "kindle 17 0", "kindle 3 1"):
                parts = row.split(" ")
                for at in range(1, len(parts)):
                    changed = " ".join(parts[:at]) + sign + " ".join(parts[at:])
                    number = STORY.split("\n").index(row) + 1
                    self.no_text(STORY.replace(row, changed), number)
        self.no_text(STORY.replace("lamp 30", "\tlamp 30"), 2)
        self.no_text(STORY.replace("17 0\n", "17 0\t\n"), 5)

    def test_a_figure_0_ahead(self):
        self.no_text(STORY.replace("lamp 2", "lamp 02"), 1)
        self.no_text(STORY.replace("to 0", "to 00"), 2)
        self.no_text(STORY.replace("to 1", "to 01"), 1)
        self.no_text(STORY.replace("kindle 0", "kindle 00"), 4)
        self.no_text(STORY.replace("kindle 17", "kindle 017"), 5)
        self.no_text(STORY.replace("3 1\n", "3 01\n"), 6)
        self.reads(STORY.replace("17", "10"), NET, [(0, 2), (10, 0), (3, 1)])

    def test_a_lamp_of_length_0(self):
        self.no_text("lamp 0 to 1\nlamp 30 to 0\n", 1)
        self.no_text("lamp 2 to 1\nlamp 0 to 0\n", 2)

    def test_thirteen_lamps(self):
        self.no_text(TWELVE_ROWS + "lamp 1 to 0\n", 13)
        self.no_text(TWELVE_ROWS + "lamp 1 to 0\nkindle 0 0\n", 13)
        self.no_text(TWELVE_ROWS + "lamp 1 to 0", 13)
        self.no_text(TWELVE_ROWS + "lamp", 13)

    def test_a_next_lamp_that_is_not_there(self):
        # It may stand behind; but where a kindling comes, or the text ends, it does not.
        self.reads("lamp 1 to 2\nlamp 1 to 2\nlamp 1 to -\n", ((1, 2), (1, 2), (1, None)), [])
        self.no_text("lamp 1 to 2\nlamp 1 to 2\n", 3)
        self.no_text("lamp 1 to 2\nlamp 1 to 2\nkindle 0 0\n", 3)
        self.no_text("lamp 1 to 2\nlamp 1 to 2\nkindle 0 0", 3)
        self.no_text("lamp 1 to 1\n", 2)
        self.no_text("lamp 1 to 1\nkindle 0 0\nkindle 0 0\n", 2)
        self.no_text("lamp 1 to 11\n", 2)
        self.no_text("lamp 1 to 11\n" * 11, 12)
        self.reads("lamp 1 to 11\n" * 12, ((1, 11),) * 12, [])
        self.no_text("lamp 1 to 12\n", 1)
        self.no_text("lamp 1 to 12\n" * 13, 1)
        self.no_text("lamp 1 to 0\nlamp 1 to 12\n", 2)
        self.no_text("lamp 1 to " + "9" * 60 + "\n", 1)

    def test_forty_one_kindlings(self):
        self.no_text(NET_TEXT + "kindle 5 1\n" * 41, 44)
        self.no_text(NET_TEXT + "kindle 5 1\n" * 50, 44)
        self.no_text(NET_TEXT + "kindle 5 1\n" * 40 + "kindle 5 1", 44)

    def test_a_kindling_of_no_lamp(self):
        self.no_text(NET_TEXT + "kindle 5 3\n", 4)
        self.no_text(STORY + "kindle 5 12\nkindle 0 0\n", 7)
        self.no_text("lamp 1 to -\nkindle 5 1\nlamp 1 to -\n", 2)
        self.no_text("kindle 0 0\n", 1)
        self.no_text("kindle 0 0\nlamp 1 to -\n", 1)
        self.no_text("kindle 0 0", 1)

    def test_a_lamps_row_behind_a_kindlings(self):
        self.no_text("lamp 1 to -\nkindle 5 0\nlamp 1 to -\n", 3)
        self.no_text(STORY + "lamp 1 to -\n", 7)
        self.no_text(STORY + "lamp 1 to -", 7)

    def test_a_last_row_without_its_end(self):
        self.no_text(STORY[:-1], 7)
        self.no_text(NET_TEXT[:-1], 4)
        self.no_text("lamp 1 to -", 2)
        # Right, and the beginning of another right one too: it is right.
        self.no_text("lamp 1 to 1", 2)
        self.no_text(TWELVE_ROWS + "kindle 0 1", 14)
        self.no_text(TWELVE_ROWS + "kindle 0 10", 14)
        self.no_text(TWELVE_ROWS + "kindle 0 12", 13)
        # Whole, but for another net only.
        self.no_text(NET_TEXT + "kindle 0 3", 4)
        # But the beginning of a right one.
        for cut in range(1, len("lamp 2 to ") + 1):
            self.no_text("lamp 2 to 1\n" + "lamp 2 to 1"[:cut], 2)
        for cut in range(1, len("kindle 17 ") + 1):
            self.no_text(NET_TEXT + "kindle 17 1"[:cut], 4)
        # Neither.
        for row in ("x", "lamp 2 to x", "kindle 0 2 ", " ", "\t", "lamp 0 to 1"):
            self.no_text(NET_TEXT + row, 4)

    def test_cut_anywhere(self):
        for text in (STORY, NET_TEXT, TWELVE_ROWS + "kindle 10 11\nkindle 100 10\n", "lamp 9 to 0\n" + "kindle 0 0\n" * 41):
            for at in range(len(text)):
                self.agrees(text[:at])

    def test_cut_anywhere_in_words(self):
        """The rows of each cut of a story told without the second reader."""
        for at in range(len(STORY)):
            ahead, cut = STORY[:at].count("\n"), STORY[:at].split("\n")[-1]
            text = STORY[:at]
            if cut == "":
                # Two lamps that lead to one another are a net, but the first one alone is none.
                if ahead < 2:
                    self.no_text(text, ahead + 1)
                else:
                    read_story(text)
                continue
            right = cut.count(" ") == (3 if ahead < 3 else 2) and not cut.endswith(" ")
            self.no_text(text, ahead + 2 if right else ahead + 1)

    def test_changed_anywhere(self):
        dice = random.Random(114)
        signs = "0123456789 lampkindteo-\n\tx~!_+."
        texts = [STORY, TWELVE_ROWS + "kindle 10 11\nkindle 100 10\n", "lamp 9 to 0\nkindle 0 0\n"]
        refused = 0
        for _ in range(4000):
            text = dice.choice(texts)
            for _ in range(dice.choice((1, 1, 2))):
                at = dice.randrange(len(text) + 1)
                text = text[:at] + dice.choice(["", dice.choice(signs)]) + text[at + dice.choice((0, 1)):]
            self.agrees(text)
            refused += isinstance(read_by_words(text), int)
        self.assertGreater(refused, 2000)
        self.assertLess(refused, 3900)

    def test_rows_changed_anywhere(self):
        dice = random.Random(115)
        rows = ["lamp 1 to -\n", "lamp 2 to 0\n", "lamp 3 to 1\n", "lamp 3 to 3\n", "kindle 0 0\n", "kindle 1 1\n"]
        for _ in range(3000):
            self.agrees("".join(sorted(dice.choice(rows) for _ in range(dice.randint(0, 6)))[::dice.choice((1, -1))]))
            self.agrees("".join(sorted(dice.choice(rows[:4]) for _ in range(dice.randint(0, 4))) + [
                dice.choice(rows) for _ in range(dice.randint(0, 4))]))

    def test_two_texts_behind_one_another(self):
        self.no_text(STORY + STORY, 7)
        self.reads(NET_TEXT + NET_TEXT, NET + NET, [])

    def test_other_texts(self):
        for text in ("lamp", "net", "0", "%", "~", "\t", "\t\n", " ", "0 lit 0 1\n", "#\n", "lamp\n1\nto\n-\n"):
            self.no_text(text, 1)
        self.no_text("lamp 1 to -\r\n", 1)
        self.no_text("lamp \u0661 to -\n", 1)
        self.no_text("lamp \u00b2 to -\n", 1)
        self.no_text("lamp 1 to -\n" * 12 + "x" * 4000, 13)

    def test_a_new_list(self):
        net, kindlings = read_story(STORY)
        kindlings.clear()
        self.assertEqual(read_story(STORY), (net, KINDLINGS))


if __name__ == "__main__":
    unittest.main()
