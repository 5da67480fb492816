"""Labels in signs: what add takes for one, and what it tells of the washing."""

from lines import LineCase, add, close, every_label, last, order, run, start

from washloads.labels import read_label

BEGIN = (start(), order())


class RightLabels(LineCase):
    def test_every_right_label_is_read(self):
        count = 0
        for text, numbers in every_label():
            label = read_label([ord(sign) for sign in text])
            found = (label.heat, label.gentle, label.bleach, label.dry, label.iron)
            self.assertEqual(found, numbers, text)
            count += 1
        self.assertEqual(count, 36 + 4 * 3 * 36)

    def test_a_right_label_is_added_or_has_no_load(self):
        for text, numbers in every_label():
            wanted = [-33] if numbers[0] == 0 else [0]
            self.assertEqual(last(*BEGIN, add(0, t=text)), wanted, text)

    def test_the_document_s_own_label(self):
        # As gentle, bleaching and drying as the label has it, at the least heat there is.
        self.assertEqual(
            last(*BEGIN, add(0, t="W40_B1D0I2"), close(0), run(0, 0)), [45, 30, 1, 1, 0])
        self.assertEqual(
            last(*BEGIN, add(0, t="W40_B1D0I2", need=40), close(0), run(0, 0)), [60, 40, 1, 1, 0])

    def test_each_sign_tells_its_own_part(self):
        for text, wanted in (
                ("W30B0D0I0", [45, 30, 0, 0, 0]),
                ("W30_B0D0I0", [45, 30, 1, 0, 0]),
                ("W30__B0D0I0", [45, 30, 2, 0, 0]),
                ("W30B1D0I0", [45, 30, 0, 1, 0]),
                ("W30B2D0I0", [45, 30, 0, 2, 0]),
                ("W30B0D1I0", [55, 30, 0, 0, 1]),
                ("W30B0D2I0", [65, 30, 0, 0, 2]),
                ("W30B0D0I3", [45, 30, 0, 0, 0])):
            self.assertEqual(last(*BEGIN, add(0, t=text), close(0), run(0, 0)), wanted, text)


class WrongLabels(LineCase):
    def none(self, signs):
        self.assertEqual(last(*BEGIN, add(0, t=signs)), [-71], f"{signs}")

    def test_a_heat_that_is_not_there(self):
        for text in ("W10B0D0I0", "W20B0D0I0", "W50B0D0I0", "W70B0D0I0", "W90B0D0I0", "W94B0D0I0",
                     "W96B0D0I0", "W31B0D0I0", "W29B0D0I0", "W41B0D0I0", "W04B0D0I0", "W01B0D0I0",
                     "W99B0D0I0", "W05B0D0I0", "W03B0D0I0"):
            self.none(text)

    def test_gentle_where_it_may_not_be_washed(self):
        self.none("W00_B0D0I0")
        self.none("W00__B0D0I0")

    def test_too_gentle(self):
        self.none("W40___B0D0I0")
        self.none("W40____B0D0I0")
        self.none("W40" + "_" * 191 + "B0D0I0")

    def test_a_digit_beyond_the_greatest(self):
        for text in ("W40B3D0I0", "W40B0D3I0", "W40B0D0I4", "W40B9D0I0", "W40B0D9I0", "W40B0D0I9"):
            self.none(text)

    def test_too_short(self):
        for text in ("", "W", "W40", "W40_", "W40B0D0", "W40B0D0I", "40B0D0I0", "W4B0D0I0", "W40BD0I0",
                     "W40B0I0", "W40D0I0", "_", "_________", "W40B0D0_"):
            self.none(text)

    def test_too_long(self):
        for text in ("W40B0D0I00", "W40B0D0I0 ", " W40B0D0I0", "W040B0D0I0", "W40B00D0I0", "W400B0D0I0",
                     "W40B0D0I0_", "W40B0D0I0W40B0D0I0", "W40B0D0I0\n", "W40B0D0I0\0"):
            self.none(text)
        self.none("W40B0D0I0" + "0" * 191)
        self.none([0] * 200)
        self.none([255] * 200)

    def test_signs_in_a_wrong_place(self):
        for text in ("W40B0_D0I0", "W4_0B0D0I0", "_W40B0D0I0", "W40B0D0_I0", "W_40B0D0I0", "W40B_0D0I0",
                     "W40D0B0I0", "W40I0D0B0", "W40B0I0D0", "W40_B0_D0I0"):
            self.none(text)

    def test_every_single_wrong_sign(self):
        for text in ("W40B1D1I1", "W95_B2D2I3", "W00B0D0I0", "W30__B1D0I2"):
            right = [ord(sign) for sign in text]
            others = {known for known, numbers in every_label()}
            for at in range(len(right)):
                for sign in range(256):
                    signs = right[:at] + [sign] + right[at + 1:]
                    if "".join(chr(number) for number in signs) not in others:
                        self.none(signs)

    def test_small_letters(self):
        for text in ("w40B0D0I0", "W40b0D0I0", "W40B0d0I0", "W40B0D0i0"):
            self.none(text)

    def test_signs_that_only_add_up_to_a_heat(self):
        # One below the sign for 0 and ten above it: 10 times -1, and 40, were 30 in all.
        self.none([87, 47, 88, 66, 48, 68, 48, 73, 48])
        self.none([87, 51, 58, 66, 48, 68, 48, 73, 48])
