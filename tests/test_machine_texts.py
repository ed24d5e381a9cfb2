"""The texts of machines."""

import itertools
import re
import unittest
from fractions import Fraction

from hindprice.errors import BadText
from hindprice.machines import Machine
from tests.support import STRANGE, Case

INTEGER = r"-?[1-9][0-9]{0,59}|0"
MACHINES = [
    Machine([(1,)], [(0, 0)]),
    Machine([((1, 2), (1, 2))], [(0, 0)]),
    Machine([(1, 0), (0, 1)], [(0, 0), (0, 1), (1, 1)]),
    Machine([(0, (1, 3), (2, 3)), (1, 0, 0), (0, (1, 2), (1, 2))], [(0, 1), (1, 2), (2, 0), (2, 2)]),
    Machine([(0, 0, 0, 0, 1)] * 6, list(itertools.product(range(6), repeat=2))),
    Machine([((1, 10 ** 39), (10 ** 39 - 1, 10 ** 39)), (0, 1)], [(1, 1), (0, 0)])]
ITEMS = ["", "0", "1", "2", "3", "4", "5", "6", "7", "9", "36", "37", "-1", "-0", "01", "+1", "1/2", "1/3", "2/3", "2/4",
         "4/2", "3/1", "3/2", "-1/2", "0/5", "x", "1.0", "1" * 60, "1" * 61, "1/" + "9" * 60, "1/" + "9" * 61, "\n1"]


class Told(Exception):
    """Where the looked at text goes wrong."""


def integer(items, at, least, most):
    if at == len(items) or not re.fullmatch(INTEGER, items[at]) or not least <= int(items[at]) <= most:
        raise Told(at)
    return int(items[at])


def share(items, at):
    if at == len(items):
        raise Told(at)
    if re.fullmatch(INTEGER, items[at]):
        value = Fraction(items[at])
    elif re.fullmatch(rf"({INTEGER})/({INTEGER})", items[at]) and not items[at].endswith("/0"):
        value = Fraction(items[at].replace("/-", "/9"))
        if str(value) != items[at]:
            raise Told(at)
    else:
        raise Told(at)
    if value < 0:
        raise Told(at)
    return value


def first_wrong(items):
    """The index of the first item that cannot stand, by the words of the document; None without one."""
    try:
        many, goods = integer(items, 0, 1, 6), integer(items, 1, 1, 5)
        for at in range(2, 2 + many * goods):
            good = (at - 2) % goods
            whole = (0 if good == 0 else whole) + share(items, at)
            if whole > 1 or (good == goods - 1 and whole != 1):
                raise Told(at)
        begin = 2 + many * goods
        arrows = integer(items, begin, 1, many * many)
        met, ahead = set(), (-1, -1)
        for at in range(begin + 1, begin + 1 + 2 * arrows, 2):
            first = integer(items, at, 0, many - 1)
            if first < ahead[0]:
                raise Told(at)
            arrow = (first, integer(items, at + 1, 0, many - 1))
            if not arrow > ahead:
                raise Told(at + 1)
            ahead = arrow
            met.add(first)
        end = begin + 2 * arrows
        if len(met) < many:
            raise Told(end)
        if len(items) > end + 1:
            raise Told(end + 1)
    except Told as told:
        return told.args[0]
    return None


class Texts(Case):
    def test_written_and_read_back(self):
        for machine in MACHINES:
            text = str(machine)
            back = Machine.read(text)
            self.assertIs(back == machine, True)
            self.assertEqual(str(back), text)
            self.assertIs(Machine.read(text=text) == machine, True)
            self.assertIs(machine.read(text) == machine, True)
            self.same((back.goods, back.many, back.mixes, back.arrows),
                      (machine.goods, machine.many, machine.mixes, machine.arrows))

    def test_just_this_text(self):
        self.assertEqual(str(MACHINES[1]), "1 2 1/2 1/2 1 0 0")
        self.assertEqual(str(MACHINES[3]), "3 3 0 1/3 2/3 1 0 0 0 1/2 1/2 4 0 1 1 2 2 0 2 2")

    def test_no_strings(self):
        for value in STRANGE + [0, 1, MACHINES[0], ["1", "1", "1", "1", "0", "0"], b"1 1 1 1 0 0"]:
            if not isinstance(value, str):
                self.raises(BadText(0), Machine.read, value)

    def test_told_by_hand(self):
        for text, item in (
                ("", 0), (" ", 0), ("1", 1), ("1 ", 1), ("0 1", 0), ("7 1", 0), ("1 0", 1), ("1 6", 1), ("1 1 0 1 0 0", 2),
                ("1 1 1/2 1 0 0", 2), ("1 1 2", 2), ("1 2 1/2 1/2", 4), ("1 2 3/2 0", 2), ("1 2 1 1", 3), ("1 2 -1 2", 2),
                ("1 2 1/2 2/4", 3), ("1 1 1 0", 3), ("1 1 1 2 0 0", 3), ("1 1 1 1 0 0 0", 6), ("1 1 1 1 0 0 ", 6),
                ("1 1 1 1 1 0", 4), ("1 1 1 1 0 1", 5), ("1 1 1 1 0", 5), ("1 1 1 1", 4), ("1  1 1 1 0 0", 1),
                ("1 3 1/2 1/2 1/2 1 0 0", 4), ("1 3 1/2 1/4 1/8 1 0 0", 4), ("2 1 1 1 4 0 0 0 1 1 0 1 1", None),
                ("2 1 1 1 5 0 0 0 1 1 0 1 1", 4), ("2 1 1 1 2 1 0 0 1", 7), ("2 1 1 1 2 0 1 0 1", 8), ("2 1 1 1 2 0 0 0 1", 8),
                ("2 1 1 1 2 0 0 0 1 1", 8), ("2 1 1 1 2 1 0 1 1", 8), ("2 1 1 1 2 0 0 1", 8), ("2 1 1 1 3 0 0 0 1", 9),
                ("3 1 1 1 1 3 0 0 2 0 2 1", 11), ("3 1 1 1 1 1 0 0", 7)):
            self.check(text, item)
            self.assertEqual(first_wrong(text.split(" ")), item, text)

    def check(self, text, item):
        if item is None:
            self.assertEqual(str(Machine.read(text)), text)
        else:
            self.raises(BadText(item), Machine.read, text)

    def check_items(self, items):
        self.check(" ".join(items), first_wrong(items))

    def test_cut_off(self):
        for machine in MACHINES:
            items = str(machine).split(" ")
            for at in range(1, len(items)):
                self.assertEqual(first_wrong(items[:at]), at)
                self.check_items(items[:at])

    def test_exchanged_left_out_put_in_doubled(self):
        for machine in MACHINES[:4]:
            items = str(machine).split(" ")
            for at in range(len(items)):
                self.check_items([*items[:at], *items[at + 1:]] or [""])
                self.check_items([*items[:at + 1], *items[at:]])
                for item in ITEMS:
                    self.check_items([*items[:at], item, *items[at + 1:]])
                    self.check_items([*items[:at], item, *items[at:]])
            for item in ITEMS:
                self.check_items([*items, item])

    def test_two_items_exchanged_for_one_another(self):
        for machine in MACHINES[:4]:
            items = str(machine).split(" ")
            for one, other in itertools.combinations(range(len(items)), 2):
                turned = list(items)
                turned[one], turned[other] = items[other], items[one]
                self.check_items(turned)

    def test_all_arrows_of_two_standings(self):
        for many in range(4):
            for arrows in itertools.product("012", repeat=2 * many):
                self.check_items(["2", "1", "1", "1", str(many), *arrows])


if __name__ == "__main__":
    unittest.main()
