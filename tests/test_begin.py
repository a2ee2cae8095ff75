"""begin: right tables, the faults of texts, and masks."""

import unittest

from pinballs.game import Game
from tests.helper import FULL, MARK, PAIR, ask, begin, bytes_of, ticks

HEAD = "table t balls 1\n"
SWITCH = "switch a at 0 close 1 open 1\n"
LAMP = "lamp a at 0\n"
COIL = "coil a at 0 most 40 rest 1\n"
DEVICE = "device a by a holds a drain\n"
# A right table whose kicks may follow.
BASE = (
    HEAD + SWITCH
    + "switch b at 1 close 1 open 1\nswitch c at 2 close 1 open 1\nswitch d at 3 close 1 open 1\n"
    + COIL
    + "coil b at 1 most 40 rest 1\ncoil c at 2 most 254 rest 1\ncoil d at 3 most 1023 rest 1\n"
    + DEVICE
)
TEN = "".join(f"switch s{k} at {k} close 1 open 1\n" for k in range(10))
TEN_COILS = "".join(f"coil c{k} at {k} most 40 rest 1\n" for k in range(10))


class BeginTest(unittest.TestCase):
    def right(self, text, mask=0):
        self.assertEqual(ask(begin(text, mask)), [[0]])

    def fault(self, kind, marked):
        """The text without its mark has this fault, where the mark was."""
        self.assertEqual(marked.count(MARK), 1)
        place = marked.index(MARK)
        text = marked.replace(MARK, "")
        self.assertEqual(ask(begin(text)), [[-6, kind, place]], marked)

    def fault_at_end(self, kind, text):
        self.assertEqual(ask(begin(text)), [[-6, kind, len(text)]], text)


class RightTables(BeginTest):
    def test_every_sort_of_line(self):
        self.right(FULL)

    def test_every_sort_only_where_it_is_needed(self):
        self.right(HEAD + SWITCH + COIL + DEVICE)

    def test_numbers_at_their_bounds(self):
        self.right(HEAD + "switch a at 0 close 1 open 31\nswitch b at 63 close 31 open 1\n"
                   "lamp a at 0\nlamp b at 63\n"
                   "coil a at 0 most 1 rest 1\ncoil b at 31 most 1023 rest 4095 hold 1\n" + DEVICE
                   + "kick b b for 255\n")
        self.right(HEAD + SWITCH + "coil a at 0 most 1023 rest 4095 hold 15\n" + DEVICE)
        self.right(BASE + "kick b d for 1\n")
        self.right("table t balls 8\n" + TEN + TEN_COILS + "device d by c0 holds s0 s1 s2 s3 s4 s5 s6 s7 drain\n")

    def test_names(self):
        self.right("table abcdefghijkl balls 1\nswitch a23456789_12 at 0 close 1 open 1\n"
                   "coil z_ at 0 most 1 rest 1\ndevice q by z_ holds a23456789_12 drain\n")

    def test_sorts_may_share_names(self):
        self.right("table a balls 1\n" + SWITCH + LAMP + COIL + DEVICE)

    def test_drain_and_loop_are_names_of_other_sorts(self):
        self.right("table drain balls 1\nswitch loop at 0 close 1 open 1\nlamp drain at 0\n"
                   "coil drain at 0 most 1 rest 1\ncoil loop at 1 most 1 rest 1\n"
                   "device drain by drain holds loop drain\n")

    def test_words_of_lines_are_names_too(self):
        self.right("table table balls 1\nswitch switch at 0 close 1 open 1\ncoil at at 0 most 1 rest 1\n"
                   "device holds by at holds switch drain\n")

    def test_eight_devices_and_eight_kicks(self):
        switches = "".join(f"switch s{k} at {k} close 1 open 1\n" for k in range(16))
        coils = "".join(f"coil c{k} at {k} most 40 rest 1\n" for k in range(16))
        devices = "".join(f"device d{k} by c{k} holds s{k} drain\n" for k in range(8))
        kicks = "".join(f"kick s{k} c{k} for 1\n" for k in range(8, 16))
        self.right(HEAD + switches + coils + devices + kicks)
        self.right("table t balls 8\n" + switches + coils + devices)

    def test_drains_hold_just_enough(self):
        self.right(PAIR)
        self.right("table t balls 2\n" + TEN + TEN_COILS + "device a by c0 holds s0 drain\n"
                   "device b by c1 holds s1\ndevice c by c2 holds s2 drain\n")

    def test_second_switch_of_a_kick_may_stand_in_a_device(self):
        self.right(BASE + "kick b b for 40 till a\n")
        self.right(BASE + "kick b b for 40 till c\nkick c c for 40 till b\n")

    def test_all_places_of_lamps(self):
        lamps = "".join(f"lamp l{k} at {k}\n" for k in range(64))
        self.right(HEAD + SWITCH + lamps + COIL + DEVICE)


class LongTexts(unittest.TestCase):
    # A list of calls can't hold a text that is too long, so the object itself is asked.
    def test_too_long(self):
        self.assertEqual(Game().begin(0, bytes_of("x" * 16385)), [-2])
        self.assertEqual(Game().begin(0, bytes_of("x" * 16384)), [-6, 1, 16384])

    def test_as_long_as_can_be_handed_in(self):
        self.assertEqual(ask(begin("x" * 15899 + "\n")), [[-6, 3, 0]])
        self.assertEqual(ask(begin("table " + "x " * 7946 + "x\n")), [[-6, 3, 8]])


class FaultOne(BeginTest):
    def test_no_byte(self):
        self.fault_at_end(1, "")

    def test_last_line_not_ended(self):
        self.fault_at_end(1, "table t balls 1")
        self.fault_at_end(1, HEAD + SWITCH + COIL + DEVICE[:-1])
        self.fault_at_end(1, HEAD + SWITCH + COIL + DEVICE + "k")

    def test_told_before_its_bytes_and_words(self):
        self.fault_at_end(1, " ")
        self.fault_at_end(1, "\x00")
        self.fault_at_end(1, "nothing  of\tthis ")
        self.fault_at_end(1, HEAD + "table")

    def test_told_behind_earlier_lines(self):
        self.fault(3, "^tabel t balls 1\nswitch")
        self.fault(2, HEAD + "^ \nswitch")


class FaultTwo(BeginTest):
    def test_strange_bytes(self):
        for sign in ("\x00", "\t", "\r", "\x0b", "\x1f", "\x7f", "\x80", "\xff"):
            self.fault(2, f"table ^{sign} balls 1\n")
            self.fault(2, f"table t balls 1^{sign}\n")

    def test_bytes_at_the_bounds_are_only_no_names(self):
        self.fault(4, "table ^! balls 1\n")
        self.fault(4, "table ^~ balls 1\n")

    def test_blanks(self):
        self.fault(2, "^ table t balls 1\n")
        self.fault(2, HEAD + "^ switch a at 0 close 1 open 1\n")
        self.fault(2, "table ^ t balls 1\n")
        self.fault(2, "table ^   t balls 1\n")
        self.fault(2, "table t balls 1^ \n")
        self.fault(2, "table t balls 1 ^ \n")
        self.fault(2, "^ \n")

    def test_told_before_words(self):
        self.fault(2, "tabel T ball 0^ \n")
        self.fault(2, "tabel T ball^\t0\n")

    def test_first_of_two(self):
        self.fault(2, "table^\tt  balls 1\n")
        self.fault(2, "table ^ t\tballs 1\n")


class FaultThree(BeginTest):
    def test_empty_lines(self):
        self.fault(3, "^\n")
        self.fault(3, HEAD + "^\n" + SWITCH)
        self.fault(3, FULL + "^\n")

    def test_first_word_of_the_first_line(self):
        for word in ("switch", "kick", "Table", "tabl", "tables", "x", "?able"):
            self.fault(3, f"^{word} t balls 1\n")

    def test_first_word_of_others(self):
        for word in ("table", "Switch", "switchs", "drain", "x", "1", "+"):
            self.fault(3, HEAD + f"^{word} a at 0 close 1 open 1\n")
        self.fault(3, FULL + "^table t balls 1\n")

    def test_sorts_that_cannot_come_any_more(self):
        lines = [SWITCH, LAMP, COIL, "device a by a holds a drain\n", "kick b b for 1\n"]
        text = HEAD
        for late in range(len(lines)):
            text += lines[late]
            if late == 0:
                text += "switch b at 1 close 1 open 1\n"
            if late == 2:
                text += "coil b at 1 most 1 rest 1\n"
            for early in range(late):
                self.fault(3, text + MARK + lines[early])

    def test_ninth_device(self):
        devices = "".join(f"device d{k} by c{k} holds s{k} drain\n" for k in range(8))
        self.fault(3, HEAD + TEN + TEN_COILS + devices + "^device d8 by c8 holds s8\n")
        self.fault(3, HEAD + TEN + TEN_COILS + devices + "^device\n")

    def test_ninth_kick(self):
        kicks = "".join(f"kick s{k} c{k} for 1\n" for k in range(1, 9))
        text = HEAD + TEN + TEN_COILS + "device d by c0 holds s0 drain\n" + kicks
        self.right(text)
        self.fault(3, text + "^kick s9 c9 for 1\n")

    def test_fixed_words(self):
        self.fault(3, "table t ^ball 1\n")
        self.fault(3, HEAD + "switch a ^on 0 close 1 open 1\n")
        self.fault(3, HEAD + "switch a at 0 ^open 1 open 1\n")
        self.fault(3, HEAD + "switch a at 0 close 1 ^close 1\n")
        self.fault(3, HEAD + "lamp a ^At 0\n")
        self.fault(3, HEAD + "coil a ^most 0 most 1 rest 1\n")
        self.fault(3, HEAD + "coil a at 0 ^at 1 rest 1\n")
        self.fault(3, HEAD + "coil a at 0 most 1 ^hold 1\n")
        self.fault(3, HEAD + SWITCH + COIL + "device a ^with a holds a\n")
        self.fault(3, HEAD + SWITCH + COIL + "device a by a ^has a\n")
        self.fault(3, BASE + "kick b b ^four 1\n")

    def test_missing_words(self):
        full = ((" table t balls 1", ""), (" switch a at 0 close 1 open 1", HEAD), (" lamp a at 0", HEAD),
                (" coil a at 0 most 1 rest 1", HEAD), (" device b by b holds b", BASE), (" kick b b for 1", BASE))
        for line, before in full:
            words = line.split()
            for number in range(1, len(words)):
                self.fault(3, before + " ".join(words[:number]) + "^\n")
        self.fault(3, HEAD + "coil a at 0 most 1 rest 1 hold^\n")
        self.fault(3, BASE + "kick b b for 1 till^\n")

    def test_words_behind_the_last(self):
        self.fault(3, "table t balls 1 ^balls\n")
        self.fault(3, HEAD + "switch a at 0 close 1 open 1 ^turn\n")
        self.fault(3, HEAD + "switch a at 0 close 1 open 1 turned ^turned\n")
        self.fault(3, HEAD + "lamp a at 0 ^0\n")
        self.fault(3, HEAD + "coil a at 0 most 1 rest 1 ^held 1\n")
        self.fault(3, HEAD + "coil a at 0 most 1 rest 1 hold 1 ^hold\n")
        self.fault(3, BASE + "device b by b holds b drain ^drain\n")
        self.fault(3, BASE + "device b by b holds b drain ^c\n")
        self.fault(3, BASE + "kick b b for 1 ^c\n")
        self.fault(3, BASE + "kick b b for 1 till c ^d\n")

    def test_behind_eight_switches(self):
        text = HEAD + TEN + TEN_COILS + "device d by c0 holds s0 s1 s2 s3 s4 s5 s6 s7"
        self.right(text + " drain\n")
        self.fault(3, text + " ^s8\n")
        self.fault(3, text + " ^s0\n")
        self.fault(3, text + " ^Nothing drain\n")
        self.fault(3, text + " drain ^drain\n")
        self.fault_at_end(8, text + "\n")


class FaultFour(BeginTest):
    WRONG_NAMES = ("abcdefghijklm", "A", "aB", "1a", "_a", "a-b", "a.", "?", "a`", "a{", "a/", "a:")

    def test_words_that_are_no_names(self):
        for name in self.WRONG_NAMES:
            self.fault(4, f"table ^{name} balls 1\n")
            self.fault(4, HEAD + f"switch ^{name} at 0 close 1 open 1\n")
            self.fault(4, HEAD + f"lamp ^{name} at 0\n")
            self.fault(4, HEAD + f"coil ^{name} at 0 most 1 rest 1\n")
            self.fault(4, BASE + f"device ^{name} by b holds b\n")

    def test_names_that_stand_before(self):
        for name in self.WRONG_NAMES:
            self.fault(4, BASE + f"device b by ^{name} holds b\n")
            self.fault(4, BASE + f"device b by b holds ^{name}\n")
            self.fault(4, BASE + f"device b by b holds b ^{name} drain\n")
            self.fault(4, BASE + f"kick ^{name} b for 1\n")
            self.fault(4, BASE + f"kick b ^{name} for 1\n")
            self.fault(4, BASE + f"kick b b for 1 till ^{name}\n")

    def test_drain_and_loop(self):
        self.fault(4, HEAD + "switch ^drain at 0 close 1 open 1\n")
        self.fault(4, HEAD + "lamp ^loop at 0\n")

    def test_words_that_are_no_numbers(self):
        for number in ("00", "01", "1x", "x", "+1", "-1", "1.0", "0x1", "1_0", "/", ":", "1/", "1:", "9" * 5000):
            self.fault(4, f"table t balls ^{number}\n")
            self.fault(4, HEAD + f"switch a at ^{number} close 1 open 1\n")
            self.fault(4, HEAD + f"lamp a at ^{number}\n")
            self.fault(4, BASE + f"kick b d for ^{number}\n")

    def test_numbers_just_outside(self):
        for number in (0, 9, 10):
            self.fault(4, f"table t balls ^{number}\n")
        self.fault(4, HEAD + "switch a at ^64 close 1 open 1\n")
        for number in (0, 32):
            self.fault(4, HEAD + f"switch a at 0 close ^{number} open 1\n")
            self.fault(4, HEAD + f"switch a at 0 close 1 open ^{number}\n")
        self.fault(4, HEAD + "lamp a at ^64\n")
        self.fault(4, HEAD + "coil a at ^32 most 1 rest 1\n")
        for number in (0, 1024):
            self.fault(4, HEAD + f"coil a at 0 most ^{number} rest 1\n")
        for number in (0, 4096, 10000):
            self.fault(4, HEAD + f"coil a at 0 most 1 rest ^{number}\n")
        for number in (0, 16):
            self.fault(4, HEAD + f"coil a at 0 most 1 rest 1 hold ^{number}\n")
        for number in (0, 256):
            self.fault(4, BASE + f"kick b d for ^{number}\n")


class FaultFive(BeginTest):
    def test_names_that_the_sort_has(self):
        self.fault(5, HEAD + SWITCH + "switch ^a at 1 close 1 open 1\n")
        self.fault(5, HEAD + LAMP + "lamp ^a at 1\n")
        self.fault(5, HEAD + COIL + "coil ^a at 1 most 1 rest 1\n")
        self.fault(5, BASE + "device ^a by b holds b\n")

    def test_places_that_do_not_rise(self):
        for place in (4, 5):
            self.fault(5, HEAD + f"switch a at 5 close 1 open 1\nswitch b at ^{place} close 1 open 1\n")
            self.fault(5, HEAD + f"lamp a at 5\nlamp b at ^{place}\n")
            self.fault(5, HEAD + f"coil a at 5 most 1 rest 1\ncoil b at ^{place} most 1 rest 1\n")

    def test_kicks_that_do_not_rise(self):
        self.fault(5, BASE + "kick c b for 1\nkick ^b c for 1\n")
        self.fault(5, BASE + "kick c b for 1\nkick ^c c for 1\n")

    def test_told_before_seven(self):
        self.fault(5, BASE + "kick c b for 1\nkick ^a c for 1\n")


class FaultSix(BeginTest):
    def test_names_that_do_not_stand_before(self):
        self.fault(6, BASE + "device b by ^x holds b\n")
        self.fault(6, BASE + "device b by b holds ^x\n")
        self.fault(6, BASE + "device b by b holds b ^x drain\n")
        self.fault(6, BASE + "kick ^x b for 1\n")
        self.fault(6, BASE + "kick b ^x for 1\n")
        self.fault(6, BASE + "kick b b for 1 till ^x\n")

    def test_names_of_another_sort(self):
        text = HEAD + "switch s at 0 close 1 open 1\nlamp l at 0\ncoil k at 0 most 1 rest 1\n"
        self.fault(6, text + "device d by ^s holds s\n")
        self.fault(6, text + "device d by k holds ^k\n")
        self.fault(6, text + "device d by k holds ^l\n")
        self.fault(6, text + "device d by k holds ^d\n")

    def test_drain_straight_behind_holds(self):
        self.fault(6, BASE + "device b by b holds ^drain\n")
        self.fault(6, BASE + "device b by b holds ^drain drain\n")
        self.fault(6, BASE + "kick ^drain b for 1\n")


class FaultSeven(BeginTest):
    def test_devices(self):
        self.fault(7, BASE + "device b by ^a holds b\n")
        self.fault(7, BASE + "device b by b holds ^a\n")
        self.fault(7, BASE + "device b by b holds b ^a drain\n")
        self.fault(7, BASE + "device b by b holds b ^b\n")
        self.fault(7, BASE + "device b by b holds b c ^b\n")

    def test_kicks(self):
        self.fault(7, BASE + "kick ^a b for 1\n")
        self.fault(7, BASE + "kick b ^a for 1\n")
        self.fault(7, BASE + "kick b b for 1\nkick c ^b for 1\n")
        self.fault(7, BASE + "kick b b for ^41\n")
        self.fault(7, BASE + "kick b c for ^255\n")
        self.fault(7, BASE + "kick b b for 1 till ^b\n")
        self.right(BASE + "kick b b for 40\nkick c c for 254\n")


class FaultEight(BeginTest):
    def test_too_few_places_in_drains(self):
        self.fault_at_end(8, HEAD)
        self.fault_at_end(8, HEAD + SWITCH + LAMP + COIL)
        self.fault_at_end(8, HEAD + SWITCH + COIL + "device a by a holds a\n")
        self.fault_at_end(8, PAIR.replace("balls 2", "balls 3"))
        self.fault_at_end(8, FULL.replace("balls 3", "balls 4"))


class TwoFaults(BeginTest):
    def test_the_first_is_told(self):
        self.fault(4, "table ^T balls 0\n")
        self.fault(4, "table ^T balls\n")
        self.fault(4, HEAD + "switch ^1 on 64\n\n")
        self.fault(3, "table t ^ball 1\n \n")
        self.fault(6, BASE + "device b by ^x holds a\n")
        self.fault(7, BASE + "device b by ^a holds x\n")
        self.fault(7, BASE + "kick b b for ^41 till b\n")
        self.fault(5, HEAD + "switch a at 5 close 1 open 1\nswitch b at ^5 close 0 open 1\n")
        self.fault(3, "table t balls 1 ^x\n" + SWITCH)

    def test_all_others_before_eight(self):
        self.fault_at_end(1, "table t balls 8")
        self.fault(3, "table t balls 8\n^\n")


class Masks(BeginTest):
    def test_places_with_switches(self):
        mask = sum(1 << place for place in (0, 1, 2, 5, 6, 9, 20, 40, 63))
        self.right(FULL, mask)

    def test_a_place_without_a_switch(self):
        for place in (3, 4, 7, 8, 19, 21, 31, 62):
            self.assertEqual(ask(begin(FULL, 1 << place)), [[-1]])
            self.assertEqual(ask(begin(FULL, 7 + (1 << place))), [[-1]])
        self.assertEqual(ask(begin(PAIR, (1 << 64) - 1)), [[-1]])

    def test_a_fault_is_told_before_the_mask(self):
        self.assertEqual(ask(begin(HEAD, 1)), [[-6, 8, len(HEAD)]])

    def test_refused_leaves_the_table_that_was(self):
        for refused in (begin("", 0), begin(HEAD, 0), begin(PAIR, 8)):
            given = ask(begin(PAIR, 3), ticks([(1, 1), (1, 0)]), [3], [4, 0], [5], refused, [3], [4, 0], [5])
            self.assertLess(given[5][0], 0)
            self.assertEqual(given[2:5], given[6:9])
            self.assertEqual(given[2], [0, 0, 2, 0])

    def test_refused_begins_nothing(self):
        self.assertEqual(ask(begin(""), [3]), [[-6, 1, 0], [-10]])
        self.assertEqual(ask(begin(PAIR, 8), [3]), [[-1], [-10]])

    def test_taken_takes_the_place_of_what_was(self):
        given = ask(begin(PAIR, 3), ticks([(1, 1)]), begin(FULL, 7 + 64), [3], [4, 0], [4, 2], [5])
        self.assertEqual(given[2:], [[0], [0, 0, 4, 0], [0, 3, 128, 3, 0, 0, 0], [0, 0, 128, 0, 0, 0, 0],
                                     [0, 0, 0, 0]])
        self.assertEqual(ask(begin(PAIR, 3), ticks([(1, 1)]), begin(PAIR, 1), [4, 0], [5])[2:],
                         [[0], [0, 1, 128, 1, 0, 0, 0], [0, 0, 0, 0]])


if __name__ == "__main__":
    unittest.main()
