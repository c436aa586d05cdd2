from spindleway.errors import BadText
from spindleway.solids import Solid
from tests.base import GREAT, ODD_VALUES, Case
from tests.samples import MOST, RING, SOLIDS, TENT, curve, led, noise, noisy_rows

# Items of no right form anywhere.
BENT_ITEMS = (
    "", "+1", "01", "00", "-0", "-01", "1.0", "1e3", "x", "-", "--1", "1-", "//", "/1", "1/", "\n", "1\n", "\t1",
    "1_0", "0x1", "\u0663", "\u00b2", "\uff11", "None", "True", "(1", "1,", str(10 ** 60), str(-10 ** 60), "9" * 100,
    "1" * 5000,
)


class TextTest(Case):
    def refused_at(self, item, text):
        self.refuses(BadText, {"item": item}, Solid.read, text)

    def test_examples(self):
        self.assertEqual(Solid.read("0 0 / 2 0 / 0 2").sides, ((0, 1), (0, 2), (1, 2)))
        self.assertEqual(str(Solid([[-3, 0], [2, 0], [0, 2]])), "-3 0 / 2 0 / 0 2")
        self.refused_at(5, "0 0 / 2 0")

    def test_there_and_back(self):
        for seed, points in enumerate(SOLIDS + tuple(curve(wide, most) for wide, most in MOST.items())):
            wide = len(points[0])
            great = led(points, noisy_rows(seed, wide, wide, 10 ** 40), noise(seed, wide, 10 ** 50))
            for solid in (Solid(points), Solid(great)):
                self.assertEqual(Solid.read(str(solid)), solid)
                self.assertEqual(str(Solid.read(text=str(solid))), str(solid))

    def test_sixty_digits(self):
        solid = Solid([(GREAT, -GREAT), (0, GREAT), (-GREAT, 0)])
        self.assertEqual(str(solid), "{0} -{0} / 0 {0} / -{0} 0".format("9" * 60))
        self.assertEqual(Solid.read(str(solid)), solid)
        for at, point in ((0, (GREAT + 1, 0)), (1, (0, -GREAT - 1))):
            self.refused_at(at, str(Solid([point, (5, 5), (7, 8)])))
            self.refused_at(at + 3, str(Solid([(5, 5), point, (7, 8)])))

    def test_great_integers_are_written(self):
        # Python's own str refuses integers of more than 4300 digits.
        digits = "12" + "0" * 4999 + "34"
        great = 12 * 10 ** 5001 + 34
        self.assertEqual(str(Solid([(great, 0), (0, -great), (0, 0)])), f"{digits} 0 / 0 -{digits} / 0 0")
        for number in (
            0, 1, 10 ** 59, 10 ** 60 - 1, 10 ** 60, 10 ** 60 + 1, 10 ** 120 - 1, 10 ** 120, 10 ** 180 + 10 ** 60,
        ):
            for sign in (1, -1):
                text = str(Solid([(sign * number, 5), (1, 1), (2, 7)]))
                self.assertEqual(text, f"{sign * number} 5 / 1 1 / 2 7")

    def test_no_string(self):
        for value in ODD_VALUES + (0, [], ["0"], Solid(TENT)):
            if not isinstance(value, str):
                self.refused_at(0, value)

    def test_bent_items(self):
        for points in (TENT, RING):
            items = str(Solid(points)).split(" ")
            for at in range(len(items)):
                for bent in BENT_ITEMS:
                    self.refused_at(at, " ".join([*items[:at], bent, *items[at + 1:]]))

    def test_numbers_and_strokes_for_one_another(self):
        items = str(Solid(TENT)).split(" ")
        # The first point tells how many integers each has, so its items are not looked at here.
        for at in range(4, len(items)):
            bent = "7" if items[at] == "/" else "/"
            self.refused_at(at, " ".join([*items[:at], bent, *items[at + 1:]]))

    def test_the_first_point(self):
        self.refused_at(0, "")
        self.refused_at(0, "/")
        self.refused_at(0, " 0 0 / 2 0 / 0 2")
        self.refused_at(1, "0")
        self.refused_at(1, "0 / 1")
        self.refused_at(1, "0 ")
        self.refused_at(1, "0  0 / 2 0 / 0 2")
        self.refused_at(2, "0 0")
        self.refused_at(2, "0 0 ")
        self.refused_at(2, "0 0 x")
        self.refused_at(3, "0 0 /")
        self.refused_at(3, "0 0 / / 2 0")
        self.refused_at(6, "0 0 0 0 0 0")
        self.refused_at(6, "0 0 0 0 0 0 0")
        self.refused_at(6, "0 0 0 0 0 0 0 / 1")
        self.refused_at(7, "0 0 0 0 0 0 /")
        self.refused_at(5, "0 0 0 0 0")

    def test_every_beginning(self):
        for points in SOLIDS:
            wide = len(points[0])
            items = str(Solid(points)).split(" ")
            for many in range(1, len(items)):
                whole = many % (wide + 1) == wide and many // (wide + 1) >= wide
                if not whole:
                    self.refused_at(many, " ".join(items[:many]))

    def test_more_behind(self):
        text = str(Solid(TENT))
        self.refused_at(19, text + " ")
        self.refused_at(19, text + " 5")
        self.refused_at(19, text + " -5 / 1 1 1")
        self.refused_at(20, text + " /")
        self.refused_at(20, text + " / ")
        self.refused_at(20, text + " / /")
        self.refused_at(22, text + " / 5 5")
        self.refused_at(24, text + " / 5 5 5 /")
        self.refused_at(0, " " + text)
        self.refused_at(18, text + "\n")

    def test_a_point_more_than_may_be(self):
        for wide, most in MOST.items():
            text = str(Solid(curve(wide, most)))
            items = text.count(" ") + 1
            self.assertEqual(items, most * (wide + 1) - 1)
            for behind in (" /", " / ", " / 9", " / x", " /" + " 9" * wide, " 9", " "):
                self.refused_at(items, text + behind)
            self.assertEqual(Solid.read(text).points, curve(wide, most))

    def test_what_only_the_whole_shows(self):
        for text, items in (
            ("0 0 / 1 0 / 2 0", 8), ("0 0 / 1 0 / 0 0", 8), ("0 0 / 0 0 / 1 0 / 0 1", 11),
            ("1 1 / 0 0 / 2 0 / 0 2", 11),
            ("0 0 / 2 0 / 0 2 / 1 1", 11), ("0 0 0 / 2 0 0 / 0 2 0 / 2 2 0", 15),
        ):
            self.refused_at(items - 1, text)
            # What is missing comes ahead of it.
            self.refused_at(items + 1, text + " /")

    def test_the_first_item_is_told(self):
        self.refused_at(3, "0 0 / 01 0 / 0 x / 1")
        self.refused_at(7, "0 0 / 0 0 / 0 x /")

    def test_long_strings(self):
        self.refused_at(1, "1 " + "/ " * 9000)
        self.refused_at(6, "1 " * 9999)
        self.refused_at(47, "1 1 / " * 3000)
        self.refused_at(0, "1" * 20000)
        self.refused_at(0, " " * 20000)
