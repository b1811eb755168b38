"""A ledger and its text: trussel.ledger, promises [1], [18] and [19]."""

import random
import time
import unittest

from plain import NO_ANVILS, VERY_GREAT, do_at, mint_seen, some_deed
from trussel.errors import (
    BadAnvils, BadDeed, BadSide, BadSpot, BadText, BadYear, Fixed, Full, Gone, Marked, MintError, NoAnvil, NoDie,
    NotFixed, Nothing,
)
from trussel.ledger import Ledger, read_ledger
from trussel.mint import Mint

DEEDS = [
    ("cut", "lower"), ("cut", "upper"), ("cut", "lower"), ("fix", 2), ("mark", "lower", 2, 0), ("strike", 2, 1),
    ("year", 1412), ("mark", "upper", 1, 7), ("strike", 2, 1), ("off", 2), ("fix", 1),
]
GIVEN = [1, 1, 2, 0, None, 0, None, None, 1, 0, 0]
TEXT = "\n".join((
    "mint 1", "cut lower", "cut upper", "cut lower", "fix 2", "mark lower 2 0", "strike 2 1", "year 1412",
    "mark upper 1 7", "strike 2 1", "off 2", "fix 1",
))

NO_DEEDS = (
    (), ("",), ("cut",), ("fix",), ("off",), ("mark",), ("strike",), ("year",), ("none",), ("lower",), ("", ""),
    ("cut", "lower", "upper"), ("cut", "lower", 1), ("fix", 1, 1), ("off", 1, 1), ("mark", "lower"), ("mark", "lower", 1),
    ("mark", "lower", 1, 1, 1), ("strike", 1), ("strike", 1, 1, 1), ("year", 1, 2), ("Cut", "lower"), ("cut ", "lower"),
    ("lay_off", 1), ("begin_year", 1), ("mint", 1), ("twin",), ("struck",), ("back",), ("put", 1), ("c", "lower"),
    ("none", 1), ("none", "lower", 1, 1), ("fix", VERY_GREAT, VERY_GREAT), ("year",) + (1,) * 100,
)

# At the mint of DEEDS: the lower die 1 is fixed, 2 is gone, and there is one upper die.
REFUSED = (
    (("cut", ""), BadSide), (("cut", "Lower"), BadSide), (("cut", "coin"), BadSide),
    (("fix", 0), NoDie), (("fix", 3), NoDie), (("fix", -1), NoDie), (("fix", VERY_GREAT), NoDie), (("fix", True), NoDie),
    (("fix", 1), Fixed), (("fix", 2), Gone),
    (("off", 3), NoDie), (("off", -VERY_GREAT), NoDie), (("off", 2), NotFixed),
    (("mark", "", 9, 9), BadSide), (("mark", "lower", 3, 9), NoDie), (("mark", "lower", 2, 9), Gone),
    (("mark", "lower", 1, 8), BadSpot), (("mark", "upper", 1, -1), BadSpot), (("mark", "upper", 1, 7), Marked),
    (("strike", 3, 1), NoDie), (("strike", 1, 2), NoDie), (("strike", 2, 1), NotFixed),
    (("year", 1412), BadYear), (("year", 0), BadYear), (("year", 10000), BadYear), (("year", VERY_GREAT), BadYear),
)


def ledger_of(anvils, deeds):
    ledger = Ledger(anvils)
    for deed in deeds:
        ledger.do(deed)
    return ledger


def mint_of(anvils, deeds):
    mint = Mint(anvils)
    for deed in deeds:
        do_at(mint, deed)
    return mint


def seen(ledger):
    """All that a ledger tells, its deeds to do again too."""
    left = ledger.twin()
    undone = []
    while True:
        try:
            undone.append(left.again())
        except Nothing:
            return [ledger.deeds(), undone, ledger.text(), mint_seen(ledger.mint())]


class LedgerCase(unittest.TestCase):
    def assert_refused(self, ledger, refusal, ask, *things):
        before = seen(ledger)
        with self.assertRaises(refusal, msg=things) as caught:
            ask(*things)
        self.assertIs(type(caught.exception), refusal)
        self.assertEqual(seen(ledger), before)

    def assert_unread(self, text, row):
        with self.assertRaises(BadText, msg=text[:300]) as caught:
            read_ledger(text)
        self.assertEqual(caught.exception.row, row, text[:300])


class DoTest(LedgerCase):
    def test_bad_anvils(self):
        for anvils in NO_ANVILS + (True, False):
            with self.assertRaises(BadAnvils):
                Ledger(anvils)

    def test_a_new_ledger(self):
        for anvils in range(1, 10):
            ledger = Ledger(anvils)
            self.assertEqual(ledger.deeds(), [])
            self.assertEqual(ledger.text(), f"mint {anvils}")
            self.assertEqual(mint_seen(ledger.mint()), mint_seen(Mint(anvils)))
            self.assert_refused(ledger, Nothing, ledger.back)
            self.assert_refused(ledger, Nothing, ledger.again)

    def test_each_deed_gives_what_the_mint_gives(self):
        ledger = Ledger(1)
        mint = Mint(1)
        for at, deed in enumerate(DEEDS):
            given = ledger.do(deed)
            self.assertEqual(given, GIVEN[at])
            self.assertEqual(given, do_at(mint, deed))
            self.assertEqual(mint_seen(ledger.mint()), mint_seen(mint))
            self.assertEqual(ledger.deeds(), DEEDS[:at + 1])

    def test_bad_deed(self):
        for ledger in (Ledger(1), ledger_of(1, DEEDS)):
            for deed in NO_DEEDS:
                self.assert_refused(ledger, BadDeed, ledger.do, deed)

    def test_refused_by_the_mint(self):
        ledger = ledger_of(1, DEEDS)
        for deed, refusal in REFUSED:
            self.assert_refused(ledger, refusal, ledger.do, deed)
        ledger.do(("cut", "lower"))
        self.assert_refused(ledger, NoAnvil, ledger.do, ("fix", 3))

    def test_full(self):
        ledger = ledger_of(1, [("cut", "lower")] * 99 + [("cut", "upper"), ("fix", 5)])
        self.assert_refused(ledger, Full, ledger.do, ("cut", "lower"))
        for number in range(200):
            self.assertEqual(ledger.do(("strike", 5, 1)), number)
        self.assert_refused(ledger, Full, ledger.do, ("strike", 5, 1))

    def test_bad_deed_ahead_of_the_mints_refusals(self):
        ledger = ledger_of(1, DEEDS)
        for deed, refusal in REFUSED:
            self.assert_refused(ledger, BadDeed, ledger.do, deed + (1,))
            self.assert_refused(ledger, BadDeed, ledger.do, deed[:-1])

    def test_told_list_is_new(self):
        ledger = ledger_of(1, DEEDS)
        told = ledger.deeds()
        self.assertIs(type(told), list)
        self.assertTrue(all(type(deed) is tuple for deed in told))
        told[0] = ("year", 7)
        told.pop()
        self.assertEqual(ledger.deeds(), DEEDS)
        self.assertEqual(ledger.text(), TEXT)

    def test_names(self):
        ledger = Ledger(anvils=1)
        self.assertEqual(ledger.do(deed=("cut", "lower")), 1)
        self.assertEqual(read_ledger(text="mint 3").text(), "mint 3")


class BackAndAgainTest(LedgerCase):
    def test_back_and_again_step_by_step(self):
        ledger = ledger_of(1, DEEDS)
        for at in range(len(DEEDS) - 1, -1, -1):
            self.assertEqual(ledger.back(), DEEDS[at])
            self.assertEqual(ledger.deeds(), DEEDS[:at])
            self.assertEqual(mint_seen(ledger.mint()), mint_seen(mint_of(1, DEEDS[:at])))
        self.assert_refused(ledger, Nothing, ledger.back)
        for at, deed in enumerate(DEEDS):
            self.assertEqual(ledger.again(), deed)
            self.assertEqual(ledger.deeds(), DEEDS[:at + 1])
            self.assertEqual(mint_seen(ledger.mint()), mint_seen(mint_of(1, DEEDS[:at + 1])))
        self.assert_refused(ledger, Nothing, ledger.again)
        self.assertEqual(ledger.text(), TEXT)

    def test_told_rows_are_tuples(self):
        ledger = ledger_of(1, DEEDS)
        self.assertIs(type(ledger.back()), tuple)
        self.assertIs(type(ledger.again()), tuple)

    def test_a_deed_done_lets_all_go(self):
        for deed in (("cut", "upper"), DEEDS[-2], ("year", 1500)):
            ledger = ledger_of(1, DEEDS)
            ledger.back()
            ledger.back()
            ledger.do(deed)
            self.assert_refused(ledger, Nothing, ledger.again)
            self.assertEqual(ledger.deeds(), DEEDS[:-2] + [deed])
            self.assertEqual(ledger.back(), deed)
            self.assertEqual(ledger.again(), deed)
            self.assert_refused(ledger, Nothing, ledger.again)

    def test_a_refused_deed_lets_nothing_go(self):
        ledger = ledger_of(1, DEEDS)
        taken = [ledger.back(), ledger.back(), ledger.back()]
        for deed in NO_DEEDS + (("cut", "none"), ("fix", 2), ("fix", 99), ("off", 1), ("year", 1412), ("strike", 1, 1)):
            with self.assertRaises(MintError):
                ledger.do(deed)
        self.assertEqual(ledger.deeds(), DEEDS[:-3])
        self.assertEqual([ledger.again(), ledger.again(), ledger.again()], taken[::-1])
        self.assertEqual(ledger.text(), TEXT)

    def test_again_is_no_deed_done_otherwise(self):
        ledger = ledger_of(1, DEEDS)
        for turn in range(4):
            ledger.back()
        ledger.again()
        self.assertEqual(ledger.again(), DEEDS[-3])
        ledger.back()
        self.assertEqual([ledger.again() for turn in range(3)], DEEDS[-3:])

    def test_a_year_taken_back(self):
        ledger = ledger_of(2, [("year", 5), ("year", 9)])
        ledger.back()
        self.assertEqual(ledger.mint().year(), 5)
        ledger.do(("year", 6))
        ledger.back()
        ledger.back()
        self.assertEqual(ledger.mint().year(), 0)

    def test_an_anvil_and_a_number_taken_back(self):
        ledger = ledger_of(2, [("cut", "lower"), ("cut", "lower"), ("fix", 1), ("fix", 2), ("off", 1)])
        ledger.back()
        self.assertEqual((ledger.mint().anvils(), ledger.mint().state(1)), ([1, 2], "fixed"))
        self.assertEqual(ledger.do(("off", 2)), 1)
        for turn in range(4):
            ledger.back()
        self.assertEqual(ledger.do(("cut", "lower")), 2)

    def test_three_hundred_quickly(self):
        deeds = [("cut", "lower"), ("cut", "upper"), ("fix", 1)]
        for number in range(150):
            deeds.append(("year", number + 1))
            deeds.append(("strike", 1, 1))
        begun = time.process_time()
        ledger = ledger_of(9, deeds)
        text = ledger.text()
        for turn in range(3):
            self.assertEqual([ledger.back() for deed in deeds], deeds[::-1])
            self.assertEqual(ledger.text(), "mint 9")
            self.assertEqual([ledger.again() for deed in deeds], deeds)
        self.assertEqual(ledger.text(), text)
        self.assertEqual(mint_seen(read_ledger(text).mint()), mint_seen(ledger.mint()))
        self.assertLess(time.process_time() - begun, 10)

    def test_many_deeds_against_mints(self):
        for seed in range(30):
            chance = random.Random(seed)
            anvils = chance.randint(1, 3)
            ledger, done, undone = Ledger(anvils), [], []
            for turn in range(120):
                word = chance.choice(("do", "do", "do", "do", "back", "again"))
                if word == "do":
                    deed = some_deed(chance, ledger.mint().year())
                    mint = mint_of(anvils, done)
                    try:
                        given = do_at(mint, deed)
                    except MintError as refusal:
                        with self.assertRaises(type(refusal)):
                            ledger.do(deed)
                    else:
                        self.assertEqual(ledger.do(deed), given)
                        done, undone = done + [deed], []
                elif word == "back" and done:
                    undone.append(done.pop())
                    self.assertEqual(ledger.back(), undone[-1])
                elif word == "again" and undone:
                    done.append(undone.pop())
                    self.assertEqual(ledger.again(), done[-1])
                self.assertEqual(ledger.deeds(), done)
            self.assertEqual(mint_seen(ledger.mint()), mint_seen(mint_of(anvils, done)))
            self.assertEqual(seen(ledger)[1], undone[::-1])
            self.assertEqual(read_ledger(ledger.text()).deeds(), done)


class MintTest(LedgerCase):
    def test_a_told_mint_goes_its_own_way(self):
        ledger = ledger_of(1, DEEDS)
        before = seen(ledger)
        for deed in (
            ("cut", "lower"), ("cut", "upper"), ("off", 1), ("mark", "lower", 1, 0), ("mark", "upper", 1, 1),
            ("strike", 1, 1), ("year", 1413),
        ):
            mint = ledger.mint()
            self.assertIs(type(mint), Mint)
            do_at(mint, deed)
            self.assertEqual(seen(ledger), before)
            self.assertNotEqual(mint_seen(mint), before[3])
        ledger.back()
        self.assertEqual(mint_seen(ledger.mint()), mint_seen(mint_of(1, DEEDS[:-1])))
        ledger.again()
        self.assertEqual(seen(ledger), before)

    def test_deeds_of_the_ledger_leave_a_told_mint(self):
        ledger = ledger_of(1, DEEDS)
        mint = ledger.mint()
        before = mint_seen(mint)
        ledger.do(("strike", 1, 1))
        self.assertEqual(mint_seen(mint), before)
        for turn in range(5):
            ledger.back()
        self.assertEqual(mint_seen(mint), before)

    def test_a_mint_told_ahead_of_all_deeds(self):
        ledger = Ledger(1)
        ledger.mint().cut("lower")
        ledger.do(("cut", "lower"))
        ledger.back()
        ledger.mint().cut("lower")
        self.assertEqual(ledger.do(("cut", "lower")), 1)


class TwinTest(LedgerCase):
    def test_the_same_deeds_to_take_back_and_do_again(self):
        ledger = ledger_of(1, DEEDS)
        for turn in range(4):
            ledger.back()
        twin = ledger.twin()
        self.assertIs(type(twin), Ledger)
        self.assertEqual(seen(twin), seen(ledger))
        self.assertEqual([twin.again() for turn in range(4)], DEEDS[-4:])
        self.assertEqual([twin.back() for deed in DEEDS], DEEDS[::-1])
        self.assertEqual(ledger.deeds(), DEEDS[:-4])
        self.assertEqual([ledger.again() for turn in range(4)], DEEDS[-4:])

    def test_goes_its_own_way(self):
        for change in (
            lambda ledger: ledger.do(("cut", "lower")), lambda ledger: ledger.do(("year", 1600)),
            lambda ledger: ledger.back(), lambda ledger: ledger.again(), lambda ledger: [ledger.back(), ledger.back()],
            lambda ledger: [ledger.back(), ledger.do(("cut", "upper"))],
        ):
            ledger = ledger_of(1, DEEDS)
            ledger.back()
            before = seen(ledger)
            twin = ledger.twin()
            change(twin)
            after = seen(twin)
            self.assertNotEqual(after, before)
            self.assertEqual(seen(ledger), before)
            other = ledger.twin()
            change(ledger)
            self.assertEqual(seen(ledger), after)
            self.assertEqual(seen(twin), after)
            self.assertEqual(seen(other), before)

    def test_both_go_on_from_where_deeds_were_taken_back(self):
        ledger = ledger_of(1, DEEDS)
        twin = ledger.twin()
        ledger.back()
        ledger.do(("cut", "upper"))
        twin.back()
        self.assertEqual(mint_seen(twin.mint()), mint_seen(mint_of(1, DEEDS[:-1])))
        twin.do(("cut", "lower"))
        self.assertEqual(mint_seen(ledger.mint()), mint_seen(mint_of(1, DEEDS[:-1] + [("cut", "upper")])))
        self.assertEqual(mint_seen(twin.mint()), mint_seen(mint_of(1, DEEDS[:-1] + [("cut", "lower")])))


class TextTest(LedgerCase):
    def test_text(self):
        self.assertEqual(ledger_of(1, DEEDS).text(), TEXT)

    def test_deeds_taken_back_are_not_written(self):
        ledger = ledger_of(1, DEEDS)
        rows = TEXT.split("\n")
        for many in range(len(DEEDS), -1, -1):
            self.assertEqual(ledger.text(), "\n".join(rows[:many + 1]))
            if many:
                ledger.back()

    def test_there_and_back(self):
        for many in range(len(DEEDS) + 1):
            text = ledger_of(1, DEEDS[:many]).text()
            ledger = read_ledger(text)
            self.assertIs(type(ledger), Ledger)
            self.assertEqual(ledger.text(), text)
            self.assertEqual(ledger.deeds(), DEEDS[:many])
            self.assertEqual(mint_seen(ledger.mint()), mint_seen(mint_of(1, DEEDS[:many])))
            self.assert_refused(ledger, Nothing, ledger.again)
            self.assertEqual([ledger.back() for turn in range(many)], DEEDS[:many][::-1])

    def test_read_things_are_numbers(self):
        for deed in read_ledger(TEXT).deeds():
            for at, thing in enumerate(deed):
                is_text = at == 0 or (at == 1 and deed[0] in ("cut", "mark"))
                self.assertIs(type(thing), str if is_text else int)

    def test_nothing_was_taken_back_of_what_is_read(self):
        ledger = ledger_of(1, DEEDS)
        ledger.back()
        read = read_ledger(ledger.text())
        self.assert_refused(read, Nothing, read.again)

    def test_all_counts_of_anvils(self):
        for anvils in range(1, 10):
            self.assertEqual(read_ledger(f"mint {anvils}").text(), f"mint {anvils}")
            self.assertEqual(read_ledger(f"mint {anvils}").mint().anvils(), [None] * anvils)

    def test_great_things(self):
        deeds = [("cut", "lower")] * 99 + [("cut", "upper")] * 99 + [("fix", 99), ("strike", 99, 99), ("year", 9999)]
        text = ledger_of(9, deeds).text()
        self.assertEqual(text.split("\n")[-3:], ["fix 99", "strike 99 99", "year 9999"])
        self.assertEqual(read_ledger(text).deeds(), deeds)

    def test_a_first_row_that_is_wrong(self):
        for row in (
            "", " ", "mint", "mint ", "mint 0", "mint 10", "mint 01", "mint -1", "mint +1", "mint 1 ", " mint 1",
            "mint  1", "mint 1 1", "Mint 1", "mint x", "mint 1.", "mint 00", "mints 1", "min 1", "1", "mint\t1",
            "mint 1\t", "cut lower", "mint " + "9" * 150, "mint " + "0" * 150 + "1", "mint1", "mint lower", "mint None",
            "mint True",
        ):
            self.assert_unread(row, 0)
            self.assert_unread(row + "\ncut lower", 0)
            self.assert_unread(row + "\nnone", 0)
            self.assert_unread(row + "\n", 0)

    def test_line_feeds_too_many(self):
        rows = TEXT.split("\n")
        self.assert_unread("\n", 0)
        self.assert_unread("\n" + TEXT, 0)
        self.assert_unread(TEXT + "\n", len(rows))
        self.assert_unread(TEXT + "\n\n", len(rows))
        self.assert_unread("mint 1\n", 1)
        for at in range(1, len(rows)):
            self.assert_unread("\n".join(rows[:at] + [""] + rows[at:]), at)

    def test_a_row_of_the_wrong_form(self):
        rows = TEXT.split("\n")
        for at in range(1, len(rows)):
            row = rows[at]
            first, *things = row.split(" ")
            for spoilt in (
                "", " ", " " + row, row + " ", row.replace(" ", "  ", 1), row.replace(" ", "\t", 1), row + " 1",
                row + " lower", first, first + " ", first.upper() + row[len(first):], first + "s" + row[len(first):],
                row[1:], row + ".", row + ",", "none", "none 1", "mint 1", row.replace(" ", ""), row + "\t",
                " ".join([first] + things[:-1]), " ".join(things), row + " " + row, row.replace(" ", ","),
            ):
                self.assert_unread("\n".join(rows[:at] + [spoilt] + rows[at + 1:]), at)

    def test_needless_noughts_and_signs(self):
        rows = TEXT.split("\n")
        for at in range(1, len(rows)):
            words = rows[at].split(" ")
            for place in range(1, len(words)):
                if words[place] in ("lower", "upper"):
                    others = ("Lower", "UPPER", "", "low", "uppers", "1", "coin", "-")
                else:
                    number = words[place]
                    others = (
                        "0" + number, "00" + number, "+" + number, "-" + number, number + ".0", number + "_0", "x",
                        "", "-", "lower", "9" * 100, "0" * 100 + number, number + "00000",
                    )
                for other in others:
                    spoilt = " ".join(words[:place] + [other] + words[place + 1:])
                    self.assert_unread("\n".join(rows[:at] + [spoilt] + rows[at + 1:]), at)

    def test_a_row_that_is_refused_there(self):
        rows = TEXT.split("\n")
        for deed, refusal in REFUSED:
            if deed[-1] is not True and abs(deed[1] if deed[0] in ("fix", "off", "year") else 0) < VERY_GREAT:
                row = " ".join(str(thing) for thing in deed)
                self.assert_unread(TEXT + "\n" + row, len(rows))
                self.assert_unread(TEXT + "\n" + row + "\nnone", len(rows))
        self.assert_unread("mint 1\nfix 1", 1)
        self.assert_unread("mint 1\ncut lower\nfix 1\nfix 1\nfix 1", 3)
        self.assert_unread("mint 1\ncut lower\nfix 1\ncut lower\nfix 2", 4)
        self.assert_unread("mint 1\nyear 5\nyear 5", 2)
        self.assert_unread("mint 1\nyear 10000", 1)
        self.assert_unread("mint 1\nyear 0", 1)
        self.assert_unread("\n".join(["mint 1"] + ["cut upper"] * 100), 100)
        many = ["mint 1", "cut lower", "cut upper", "fix 1"] + ["strike 1 1"] * 200
        self.assertEqual(read_ledger("\n".join(many)).mint().struck(), 200)
        self.assert_unread("\n".join(many + ["strike 1 1"]), 204)

    def test_a_row_exchanged_with_the_next(self):
        self.assert_unread("mint 1\nfix 1\ncut lower", 1)
        self.assert_unread("mint 1\ncut lower\nstrike 1 1\nfix 1", 2)
        self.assert_unread("cut lower\nmint 1", 0)

    def test_the_first_of_several_wrong_rows(self):
        rows = TEXT.split("\n")
        for at in range(len(rows)):
            for other in range(at + 1, len(rows)):
                for wrong in ("", "fix 99", "none"):
                    spoilt = list(rows)
                    spoilt[at] = spoilt[other] = wrong
                    self.assert_unread("\n".join(spoilt), at)

    def test_each_small_change_of_a_text(self):
        text = "mint 2\ncut lower\ncut upper\nfix 1\nmark upper 1 3\nstrike 1 1\nyear 14\noff 1"
        read = 0
        for at in range(len(text) + 1):
            for sign in [""] + list("0123459- \nxl"):
                for spoilt in (text[:at] + sign + text[at:], text[:at] + sign + text[at + 1:]):
                    try:
                        ledger = read_ledger(spoilt)
                    except BadText as refusal:
                        self.assertIn(refusal.row, range(spoilt.count("\n") + 1))
                        self.assertGreaterEqual(refusal.row, text[:at].count("\n"))
                    else:
                        read += 1
                        self.assertEqual(ledger.text(), spoilt)
        self.assertGreater(read, 30)


if __name__ == "__main__":
    unittest.main()
