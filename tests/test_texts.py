import random
import unittest

from seenposts.errors import Unreadable
from seenposts.lines import Line
from seenposts.pictures import Picture
from seenposts.readings import read_line, read_picture, read_place
from seenposts.texts import show_line, show_picture, show_place
from tests.helping import answers, exactly, refuses

FAR = 10 ** 60 - 1
BIG = 10 ** 40 - 1
READERS = (read_place, read_picture, read_line)

PLACES = [((3, -4), "(3,-4)"), ((0, -5, 7), "(0,-5,7)"), ((0, 0), "(0,0)"), ((-1, 10), "(-1,10)"),
          ((FAR, -FAR), f"({FAR},-{FAR})"), ((1, 2, 3), "(1,2,3)"), ((100, 0, -100), "(100,0,-100)")]
PICTURES = [
    (Picture(2, [(1, 0), (0, 0)], [(-1, 1)]), "2 seen (0,0) (1,0) hidden (-1,1)"),
    (Picture(3, [], []), "3 seen hidden"), (Picture(2, [], []), "2 seen hidden"),
    (Picture(2, [(5, -5)], []), "2 seen (5,-5) hidden"),
    (Picture(3, [], [(2, 0, 0), (-2, 9, 9), (2, -1, 5)]), "3 seen hidden (-2,9,9) (2,-1,5) (2,0,0)"),
    (Picture(2, [(10, 0), (9, 0), (-9, 0), (-10, 0)], []),
     "2 seen (-10,0) (-9,0) (9,0) (10,0) hidden"),
    (Picture(2, [(FAR, 0)], [(-FAR, 0)]), f"2 seen ({FAR},0) hidden (-{FAR},0)")]
LINES = [(Line((0, 6), (1, 1)), "(0,6) by (1,1)"), (Line((2, 2), (1, 1)), "(2,2) by (1,1)"),
         (Line((0, 0, 0), (0, -1, 0)), "(0,0,0) by (0,-1,0)"),
         (Line((FAR, -FAR), (-FAR, FAR - 1)), f"({FAR},-{FAR}) by (-{FAR},{FAR - 1})")]

BAD_INTEGERS = ["", "-", "+1", "01", "-01", "-0", "00", "000", "--1", "1-", "1_0", " 1", "1 ", "1.0",
                "0x1", "1e3", "a", "1" + "0" * 60, "-1" + "0" * 60, "0" * 61, "1" * 59999, "1+1"]
BAD_PLACES = ["", "(", ")", "()", "(1)", "(1,2,3,4)", "(1,2", "1,2)", "1,2", "[1,2]", "(1 2)", "(1, 2)",
              "( 1,2)", "(1,2 )", " (1,2)", "(1,2) ", "(1,,2)", "(1,2,)", "(,1,2)", "((1,2))", "(1;2)",
              "(1,2)(3,4)", "(1,2),", "(-,1)", "(1,2,3,4,5,6)", "None", "()()", ")1,2("]


def broken(text):
    """The texts with one character too many, too few, or exchanged for another one."""
    signs = "019-+,() sx"
    found = [text[:at] + text[at + 1:] for at in range(len(text))]
    found += [text[:at] + sign + text[at:] for at in range(len(text) + 1) for sign in signs]
    found += [text[:at] + sign + text[at + 1:] for at in range(len(text)) for sign in signs]
    found += [text[:at] + text[at + 1] + text[at] + text[at + 2:] for at in range(len(text) - 1)]
    return sorted(set(found) - {text})


class Showing(unittest.TestCase):
    def test_places(self):
        for place, text in PLACES:
            answers(self, text, show_place, place=place)

    def test_pictures(self):
        for picture, text in PICTURES:
            for found in (show_picture(picture), show_picture(picture=picture)):
                exactly(self, found, text)

    def test_lines(self):
        for line, text in LINES:
            for found in (show_line(line), show_line(line=line)):
                exactly(self, found, text)

    def test_the_order_in_which_places_were_told_does_not_count(self):
        seen, hidden = [(n, -n) for n in range(20)], [(-n, n * n) for n in range(1, 20)]
        one, other = Picture(2, seen, hidden), Picture(2, seen[::-1], hidden[::-1])
        exactly(self, show_picture(one), show_picture(other))


class Reading(unittest.TestCase):
    def test_places(self):
        for place, text in PLACES:
            answers(self, place, read_place, text=text)

    def test_pictures(self):
        for picture, text in PICTURES:
            for found in (read_picture(text), read_picture(text=text)):
                self.assertIs(type(found), Picture)
                exactly(self, (found == picture, found.seen, found.hidden),
                        (True, picture.seen, picture.hidden))

    def test_lines(self):
        for line, text in LINES:
            for found in (read_line(text), read_line(text=text)):
                self.assertIs(type(found), Line)
                exactly(self, (found == line, found.start, found.step), (True, line.start, line.step))

    def test_integers_of_sixty_digits(self):
        for number in (FAR, -FAR, 10 ** 59, -10 ** 59, 0):
            answers(self, (number, 1, number), read_place, text=f"({number},1,{number})")

    def test_what_is_shown_is_read_back(self):
        pick = random.Random(17)
        for far in (2, 40, BIG, FAR):
            for size in (2, 3):
                for _ in range(30):
                    places = sorted({tuple(pick.randrange(-far, far + 1) for _ in range(size))
                                     for _ in range(12)})
                    cut = pick.randrange(len(places) + 1)
                    picture = Picture(size, places[:cut], places[cut:])
                    text = show_picture(picture)
                    exactly(self, read_picture(text) == picture, True)
                    exactly(self, show_picture(read_picture(text)), text)
                    exactly(self, read_place(show_place(places[0])), places[0])
                    line = Line(places[0], (1,) + places[-1][1:])
                    text = show_line(line)
                    exactly(self, read_line(text) == line, True)
                    exactly(self, show_line(read_line(text)), text)

    def test_two_hundred_places_of_each(self):
        seen = [(BIG - k, k) for k in range(200)]
        hidden = [(k - BIG, -k * k) for k in range(200)]
        picture = Picture(2, seen, hidden)
        text = show_picture(picture)
        exactly(self, read_picture(text) == picture, True)
        exactly(self, show_picture(read_picture(text)), text)

    def test_the_greatest_texts(self):
        text = "2 seen " + " ".join([f"({n},7)" for n in range(1000, 9000)])
        text = text[:59990].rpartition(" ")[0] + " hidden"
        picture = read_picture(text)
        self.assertGreater(len(text), 59900)
        exactly(self, (show_picture(picture) == text, (1000, 7) in picture), (True, True))
        exactly(self, len(picture), text.count("("))
        refuses(self, Unreadable, text + "s", read_picture, text=text + "s")

    def test_lines_with_any_number(self):
        line = read_line(f"({FAR},-{FAR}) by (-{FAR},{FAR - 1})")
        exactly(self, line.number, FAR)
        exactly(self, (line == read_line(show_line(line)), line.start, line.step),
                (True, (FAR, -FAR), (-FAR, FAR - 1)))
        line = read_line(f"(0,{FAR}) by ({FAR},1)")
        exactly(self, line.number, FAR * FAR)
        line = read_line(f"(0,0,{FAR}) by (1,0,0)")
        exactly(self, line.number, FAR)

    def test_the_lists_of_what_is_read_are_new(self):
        picture = read_picture("2 seen (0,0) hidden (1,1)")
        picture.seen.clear()
        exactly(self, show_picture(picture), "2 seen (0,0) hidden (1,1)")


class Unreadables(unittest.TestCase):
    def test_places(self):
        for text in BAD_PLACES:
            refuses(self, Unreadable, text, read_place, text=text)

    def test_integers(self):
        for number in BAD_INTEGERS:
            for text in (f"({number},1)", f"(1,{number})", f"(1,{number},1)", f"(1,1,{number})"):
                refuses(self, Unreadable, text, read_place, text=text)
            for text in (f"2 seen ({number},1) hidden", f"2 seen hidden (0,{number})",
                         f"3 seen hidden (0,1,{number})"):
                refuses(self, Unreadable, text, read_picture, text=text)
            for text in (f"({number},1) by (1,0)", f"(1,{number}) by (1,0)", f"(1,0) by ({number},1)",
                         f"(1,0,0) by (1,1,{number})"):
                refuses(self, Unreadable, text, read_line, text=text)

    def test_places_in_pictures_and_lines(self):
        for place in BAD_PLACES:
            for text in (f"2 seen {place} hidden", f"2 seen hidden {place}",
                         f"2 seen (0,0) {place} hidden (1,1)", f"2 seen (0,0) hidden {place} (1,1)"):
                refuses(self, Unreadable, text, read_picture, text=text)
            for text in (f"{place} by (1,0)", f"(1,0) by {place}"):
                refuses(self, Unreadable, text, read_line, text=text)

    def test_pictures(self):
        for text in [
                "", " ", "2", "2 ", "2 seen", "2 seen ", "2 hidden", "seen hidden", " seen hidden",
                "1 seen hidden", "4 seen hidden", "02 seen hidden", "+2 seen hidden",
                "-2 seen hidden", "22 seen hidden", "2.0 seen hidden", "x seen hidden",
                "2 hidden seen", "2 seen seen hidden", "2 seen hidden hidden",
                "2 Seen hidden", "2 seen Hidden", "2 seen  hidden", "2  seen hidden",
                " 2 seen hidden", "2 seen hidden ", "2 seenhidden", "2seen hidden", "2 seen,hidden",
                "2 (0,0) seen hidden", "2 seen (0,0)", "2 hidden (0,0)", "2 seen (0,0)hidden",
                "2 seen (0,0)(1,0) hidden", "2 seen (0,0),(1,0) hidden", "2 seen (0,0) hidden seen",
                "2 seen (0,0) hidden (1,1) hidden", "2 seen (0,0) hidden (1,1) seen (2,2)",
                "2 seen (0,0) (0,0)", "2 open (0,0) hidden", "2 seen 0,0 hidden"]:
            refuses(self, Unreadable, text, read_picture, text=text)

    def test_places_of_another_size(self):
        for text in ["2 seen (0,0,0) hidden", "3 seen (0,0) hidden", "2 seen hidden (0,0,0)",
                     "3 seen hidden (0,0)", "2 seen (0,0) (0,0,1) hidden",
                     "3 seen (0,0,0) hidden (1,1,1) (2,2)", "2 seen (0,0) hidden (0,0,0)"]:
            refuses(self, Unreadable, text, read_picture, text=text)

    def test_places_that_do_not_ascend_or_stand_twice(self):
        for text in ["2 seen (1,0) (0,0) hidden", "2 seen hidden (1,0) (0,9)",
                     "2 seen (0,0) (0,0) hidden", "2 seen hidden (0,0) (0,0)",
                     "2 seen (0,0) hidden (0,0)", "2 seen (0,0) (5,5) hidden (4,4) (5,5)",
                     "2 seen (0,1) (0,2) (0,-1) hidden", "2 seen (10,0) (9,0) hidden",
                     "2 seen (-9,0) (-10,0) hidden", "3 seen (0,0,1) (0,0,0) hidden",
                     "3 seen hidden (0,0,1) (0,0,1)", "2 seen (0,0) (1,1) (1,1) hidden"]:
            refuses(self, Unreadable, text, read_picture, text=text)
        exactly(self, read_picture("2 seen (0,0) (5,5) hidden (-4,4) (5,4)").hidden,
                [(-4, 4), (5, 4)])

    def test_lines(self):
        for text in ["", " ", "by", " by ", "(0,6)", "(0,6) by", "by (1,1)", "(0,6) (1,1)",
                     "(0,6) By (1,1)", "(0,6)  by (1,1)", "(0,6) by  (1,1)", " (0,6) by (1,1)",
                     "(0,6) by (1,1) ", "(0,6)by(1,1)", "(0,6) by (1,1) by (1,1)", "(0,6) and (1,1)",
                     "(0,6) by (1,1,1)", "(0,6,0) by (1,1)", "(0,6) by by (1,1)"]:
            refuses(self, Unreadable, text, read_line, text=text)

    def test_steps_with_a_common_divisor(self):
        for text in ["(0,6) by (0,0)", "(0,6) by (2,0)", "(0,6) by (2,-4)", "(0,6,1) by (0,0,0)",
                     "(0,6,1) by (6,10,-4)", f"(0,6) by ({FAR},{FAR})", "(0,6) by (0,-2)"]:
            refuses(self, Unreadable, text, read_line, text=text)
        exactly(self, read_line("(0,6,1) by (6,10,15)").step, (6, 10, 15))

    def test_texts_of_something_else(self):
        for call, texts in [(read_place, ["2 seen hidden", "(0,6) by (1,1)"]),
                            (read_picture, ["(0,6)", "(0,6) by (1,1)"]),
                            (read_line, ["(0,6)", "2 seen hidden"])]:
            for text in texts:
                refuses(self, Unreadable, text, call, text=text)

    def test_very_long_texts(self):
        for text in ["(" * 60000, ")" * 60000, "," * 60000, " " * 60000, "1" * 60000, "-" * 60000,
                     "(" + "1" * 59996 + ",1)", "2 seen " + "(0,0) " * 9998, "hidden " * 8571,
                     "(" + "0," * 29998 + "0)", "2 seen hidden" + " " * 59987, "~" * 60000]:
            for call in READERS:
                refuses(self, Unreadable, text, call, text=text)

    def test_one_character_too_many_too_few_or_exchanged(self):
        """What is read from such a text has exactly this text; otherwise it is unreadable."""
        for call, show, texts in [
                (read_place, show_place, ["(3,-4)", "(0,-5,7)", "(10,0)"]),
                (read_picture, show_picture, ["2 seen (0,0) (1,0) hidden (-1,1)", "3 seen hidden",
                                              "3 seen hidden (-2,9,9) (2,-1,5)"]),
                (read_line, show_line, ["(0,6) by (1,1)", "(0,0,10) by (0,-1,0)"])]:
            for text in texts:
                read = 0
                for other in broken(text):
                    try:
                        found = call(other)
                    except Unreadable as error:
                        exactly(self, error.value, other)
                    else:
                        exactly(self, show(found), other)
                        read += 1
                self.assertLess(read, len(broken(text)) // 2)

    def test_every_short_text(self):
        signs = "(),-012"
        texts = [""]
        for _ in range(6):
            texts = [text + sign for text in texts for sign in signs]
            found = [text for text in texts if self.readable(text)]
            if len(texts[0]) == 5:
                exactly(self, found, sorted([f"({a},{b})" for a in range(3) for b in range(3)]))
            if len(texts[0]) < 5:
                exactly(self, found, [])
        numbers = ["-1", "-2", "10", "11", "12", "20", "21", "22"]
        expected = [f"({a},{b})" for a in numbers for b in "012"]
        expected += [f"({b},{a})" for a in numbers for b in "012"]
        exactly(self, found, sorted(expected, key=lambda text: [signs.index(s) for s in text]))

    def readable(self, text):
        try:
            read_place(text)
        except Unreadable:
            return False
        return True


if __name__ == "__main__":
    unittest.main()
