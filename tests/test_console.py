"""restworld.console."""

import random

from restworld.console import Console
from restworld.endless import count_endless
from restworld.errors import (
    Broken, InUse, InvalidClaim, InvalidCommand, InvalidFacts, InvalidIndex, InvalidNumber, InvalidPrime, InvalidSum,
    NotAThing, NothingToUndo, Quarrel, TooGreat, TooMany, UnknownName,
)
from restworld.facts import joined, rest_by
from restworld.functions import least_form
from restworld.lamps import dark_from, dark_share
from restworld.shelves import Shelf
from restworld.sums import value
from restworld.zeros import zeros
from tests.support import NO_TUPLES, THREE, Case, some_facts, some_sums

MOST = 10 ** 40
GREAT = 10 ** 30
# One command of each form, done in this order.
COMMANDS = (
    "facts a 2,3 3,5 2,7", "facts c 0,2 0,3 1,4 5,6 7,12", "facts m" + " 0,1" * 13, "sum f 0 0 1", "sum g 0 1",
    "sum n 0", "claim together a", "claim tells a 8,15", "claim covers c", "claim dark a 1", "claim same f g 2",
    "claim turns g 5000", "claim zero f 7 49", "joined a", "rest a 21", "dark a 2", "share a", "value f -3",
    "form f 4", "zeros f 4", "endless f 7", "show a", "names", "claims", "lift 6", "drop m", "undo",
)
ANSWERS = ("ok",) * 13 + (
    "23,105", "2,21", "4", "16/35", "9", "0 1 1", "0 2", "1", "2,3 3,5 2,7", "a c f g m n", "7", "ok", "ok", "ok",
)


def told(facts):
    return " ".join(f"{rest},{base}" for rest, base in facts)


def spaced(numbers):
    return " ".join(str(number) for number in numbers) or "none"


def shown(console):
    shelf = console.shelf
    return shelf.names, tuple(shelf.thing(name) for name in shelf.names), shelf.claims, shelf.changes


class Consoles(Case):
    def setUp(self):
        self.console = Console()

    def answers(self, wanted, command):
        """The console answers so, by position and by name, if nothing is changed by it."""
        before = shown(self.console)
        got = self.console.run(command)
        self.assertEqual((type(got), got), (str, wanted), command)
        if shown(self.console) == before:
            self.assertEqual(self.console.run(command=command), wanted)

    def keeps(self, error, command):
        """The command raises the error, and nothing is changed."""
        before = shown(self.console)
        self.refuses(error, self.console.run, command)
        self.assertEqual(shown(self.console), before)

    def fill(self):
        for command in COMMANDS[:13]:
            self.console.run(command)


class Examples(Consoles):
    def test_examples_of_the_document(self):
        commands = ("facts a 2,3 3,5 2,7", "joined a", "rest a 4", "dark a 2", "share a", "sum f -1 0 1", "zeros f 8",
                    "claim tells a 8,15", "endless f 5", "show a")
        wanted = ["ok", "23,105", "0,1", "4", "16/35", "ok", "1 3 5 7", "ok", "2", "2,3 3,5 2,7"]
        self.assertEqual([self.console.run(command) for command in commands], wanted)
        self.keeps(Broken(0, (2, 3)), "facts a 2,3")


class Answers(Consoles):
    def test_each_command(self):
        for command, wanted in zip(COMMANDS, ANSWERS):
            self.answers(wanted, command)
        self.assertEqual(self.console.shelf.changes, 14)

    def test_by_name(self):
        self.assertEqual(self.console.run(command="sum f 1 2"), "ok")
        self.assertEqual(self.console.run(command="show f"), "1 2")

    def test_the_shelf(self):
        self.assertIsInstance(self.console.shelf, Shelf)
        self.assertIs(self.console.shelf, self.console.shelf)
        self.assertIsNot(self.console.shelf, Console().shelf)
        self.assertEqual(shown(self.console), ((), (), (), 0))
        self.fill()
        shelf = self.console.shelf
        self.assertEqual(shelf.thing("a"), ("facts", THREE))
        self.assertEqual(shelf.thing("f"), ("sum", (0, 0, 1)))
        self.assertEqual(shelf.claims, (
            ("together", "a"), ("tells", "a", (8, 15)), ("covers", "c"), ("dark", "a", 1), ("same", "f", "g", 2),
            ("turns", "g", 5000), ("zero", "f", 7, 49),
        ))
        shelf.put("z", ("sum", (5,)))
        self.answers("5", "show z")
        with shelf.trial():
            self.answers("ok", "drop z")
        self.answers("a c f g m n", "names")
        self.assertIs(self.console == self.console, True)
        self.assertIs(self.console == Console(), False)
        self.assertIs(self.console != Console(), True)

    def test_against_the_functions(self):
        for facts in some_facts(81, 5, 9, 80):
            if facts:
                self.answers("ok", f"facts a {told(facts)}")
                self.answers(told(facts), "show a")
                for base in (1, 4, 30):
                    try:
                        wanted = told((rest_by(facts, base),))
                    except Quarrel as error:
                        self.keeps(Quarrel(error.first, error.second), f"rest a {base}")
                        self.keeps(Quarrel(error.first, error.second), "joined a")
                    else:
                        self.answers(wanted, f"rest a {base}")
                        self.answers(told((joined(facts),)), "joined a")
                top, bottom = dark_share(facts)
                self.answers(f"{top}/{bottom}", "share a")
                for number in (-7, 0, 1, MOST, -MOST):
                    dark = dark_from(facts, number)
                    self.answers("none" if dark is None else str(dark), f"dark a {number}")

    def test_sums_against_the_functions(self):
        for terms in some_sums(82, 60):
            self.answers("ok", f"sum f {spaced(terms)}")
            self.answers(spaced(terms), "show f")
            for number in (-5, 0, 12, -MOST, MOST):
                self.answers(str(value(terms, number)), f"value f {number}")
            for base in (1, 2, 8, 12, 49, 997):
                self.answers(spaced(least_form(terms, base)), f"form f {base}")
                self.answers(spaced(zeros(terms, base)), f"zeros f {base}")
            for prime in (2, 5, 997):
                if terms == (0,):
                    self.keeps(InvalidSum((0,)), f"endless f {prime}")
                else:
                    self.answers(str(count_endless(terms, prime)), f"endless f {prime}")

    def test_none(self):
        self.answers("none", "names")
        self.answers("0", "claims")
        for command in ("facts c 0,2 1,2", "sum f 1 0 1"):
            self.answers("ok", command)
        self.answers("none", "dark c -7")
        self.answers("0/1", "share c")
        self.answers("none", "zeros f 3")
        self.answers("0", "endless f 3")
        self.answers("0", "form f 1")
        self.console.shelf.put("e", ("facts", ()))
        self.answers("none", "show e")
        self.answers("0,1", "joined e")
        self.answers("0,1", "rest e 5000")
        self.answers("-7", "dark e -7")
        self.answers("1/1", "share e")

    def test_greatest_things(self):
        self.answers("ok", "facts a" + f" {GREAT - 1},{GREAT}" * 40)
        self.answers(f"{GREAT - 1},{GREAT}", "joined a")
        self.answers("ok", "sum f" + " 1000000000000" * 12 + " -1000000000000")
        self.answers("ok", "sum abcdefgh 0")
        self.answers("0", "value abcdefgh " + str(MOST))
        self.answers("0", "value abcdefgh -" + str(MOST))

    def test_changes(self):
        self.fill()
        for command, count in (("drop m", 14), ("lift 0", 15), ("undo", 14), ("undo", 13), ("undo", 12)):
            self.answers("ok", command)
            self.assertEqual(self.console.shelf.changes, count)
        self.answers("6", "claims")
        for _ in range(12):
            self.answers("ok", "undo")
        self.answers("none", "names")
        self.keeps(NothingToUndo(), "undo")


class NoCommands(Consoles):
    def refused(self, command):
        self.keeps(InvalidCommand(command), command)

    def test_no_strings(self):
        for wrong in NO_TUPLES + (b"names", ["names"], ("names",), 1, True, b""):
            if not isinstance(wrong, str):
                self.refused(wrong)

    def test_words_that_are_none(self):
        self.fill()
        for wrong in ("", " ", "a", "Names", "NAMES", "name", "claim", "facts", "sum", "put a", "thing a", "trial", "help",
                      "together a", "claim a", "claim facts a", "claim undo", "claim joined a", "claim Covers c", "show",
                      "names\n", "\nnames", "na mes", "names;", "claims claims", "0", "-", ",", "claim  covers c",
                      "facts\na 0,1", "claim claim covers c", "shelf", "run names", "ok", "none"):
            self.refused(wrong)

    def test_too_few_and_too_many_words(self):
        self.fill()
        for command in COMMANDS:
            words = command.split(" ")
            if len(words) > 1:
                self.refused(words[0])
                if words[0] not in ("facts", "sum") or len(words) == 3:
                    self.refused(" ".join(words[:-1]))
            if words[0] not in ("facts", "sum"):
                for more in (words[-1], "a", "1", "0,1"):
                    self.refused(f"{command} {more}")
        for wrong in ("facts a", "sum f", "facts", "sum", "facts a" + " 0,1" * 41, "sum f" + " 1" * 14):
            self.refused(wrong)
        self.answers("ok", "facts b" + " 0,1" * 40)
        self.answers("ok", "sum h" + " 1" * 13)

    def test_spaces(self):
        self.fill()
        for command in COMMANDS:
            self.refused(" " + command)
            self.refused(command + " ")
            self.refused(command + "\n")
            if " " in command:
                self.refused(command.replace(" ", "  ", 1))
                self.refused(command.replace(" ", "\n"))
                at = command.rindex(" ")
                self.refused(command[:at] + " " + command[at:])

    def test_integers(self):
        self.fill()
        for wrong in ("-0", "+1", "01", "00", "-01", "1.0", "1e3", "0x1", "", "-", "--1", "1-", " 1", "1_0", "a", "1,", "a1",
                      "1\n", "-a", "'1'", "1,2"):
            for command in ("value f {}", "dark a {}", "sum f {}", "sum f 1 {} 1", "rest a {}", "form f {}", "zeros f {}",
                            "endless f {}", "lift {}", "claim dark a {}", "claim same f g {}", "claim turns f {}",
                            "claim zero f {} 1", "claim zero f 7 {}", "facts a {},3", "facts a 0,{}", "claim tells a {},3",
                            "claim tells a 0,{}"):
                self.refused(command.replace("{}", wrong))

    def test_bounds(self):
        self.fill()
        for wrong in (-1, GREAT + 1, MOST, 10 ** 99):
            for command in ("lift {}", "claim dark a {}", "claim zero f {} 1"):
                self.refused(command.replace("{}", str(wrong)))
        for wrong in (-1, 0, 5001, 10 ** 12):
            for command in ("rest a {}", "form f {}", "zeros f {}", "claim same f g {}", "claim turns f {}", "claim zero f 0 {}"):
                self.refused(command.replace("{}", str(wrong)))
        for wrong in (-1, -2, -997):
            self.refused(f"endless f {wrong}")
        # These are of the form, and what they name tells what is wrong.
        self.keeps(InvalidIndex(GREAT), f"lift {GREAT}")
        self.keeps(InvalidIndex(7), "lift 7")
        self.keeps(InvalidPrime(0), "endless f 0")
        self.keeps(InvalidPrime(10 ** 50), f"endless f {10 ** 50}")
        self.keeps(InvalidPrime(1009), "endless f 1009")
        self.keeps(InvalidNumber(MOST + 1), f"value f {MOST + 1}")
        self.keeps(InvalidNumber(-MOST - 1), f"dark a {-MOST - 1}")
        self.answers("ok", f"claim zero f {GREAT} 5000")

    def test_facts(self):
        self.fill()
        for wrong in ("0", "0,", ",1", ",", "0,1,2", "0;1", "(0,1)", "0, 1", "0 ,1", "0,-", "a,b", "0/1", "0,,1"):
            self.refused(f"facts a {wrong}")
            self.refused(f"facts a 0,1 {wrong}")
            self.refused(f"claim tells a {wrong}")
        self.refused("facts a 0 1")

    def test_names(self):
        self.fill()
        for wrong in ("A", "aB", "a1", "1", "a_b", "abcdefghi", "a,b", "", "a-b", "-a", "a\n", "{"):
            for command in ("facts {} 0,1", "sum {} 1", "drop {}", "joined {}", "rest {} 4", "dark {} 4", "share {}",
                            "value {} 4", "form {} 4", "zeros {} 4", "endless {} 5", "show {}", "claim together {}",
                            "claim tells {} 0,1", "claim covers {}", "claim dark {} 0", "claim same {} f 4",
                            "claim same f {} 4", "claim turns {} 4", "claim zero {} 0 4"):
                self.refused(command.replace("{}", wrong))


class Errors(Consoles):
    def setUp(self):
        self.console = Console()
        self.fill()

    def test_no_things(self):
        self.keeps(NotAThing(("facts", ((2, 2),))), "facts a 2,2")
        self.keeps(NotAThing(("facts", ((0, 1), (-1, 2)))), "facts new 0,1 -1,2")
        self.keeps(NotAThing(("facts", ((0, GREAT + 1),))), f"facts a 0,{GREAT + 1}")
        self.keeps(NotAThing(("sum", (1, 0))), "sum f 1 0")
        self.keeps(NotAThing(("sum", (10 ** 12 + 1,))), "sum new 1000000000001")
        self.keeps(InUse(0), "sum a 1")
        self.keeps(InUse(4), "facts f 0,1")
        self.keeps(Broken(1, (2, 3)), "facts a 2,3")
        self.keeps(Broken(4, 0), "sum f 1 0 1")

    def test_unknown_names(self):
        for name in ("zz", "f", "g", "n"):
            for command in ("joined {}", "rest {} 4", "dark {} 4", "share {}", "claim together {}", "claim tells {} 0,1",
                            "claim covers {}", "claim dark {} 0"):
                self.keeps(UnknownName(name), command.replace("{}", name))
        for name in ("zz", "a", "c", "m"):
            for command in ("value {} 4", "form {} 4", "zeros {} 4", "endless {} 5", "claim same {} f 4", "claim same f {} 4",
                            "claim turns {} 4", "claim zero {} 0 4"):
                self.keeps(UnknownName(name), command.replace("{}", name))
        for command in ("drop zz", "show zz"):
            self.keeps(UnknownName("zz"), command)
        self.keeps(UnknownName("y"), "claim same y z 4")
        # Ahead of what else is wrong.
        self.keeps(UnknownName("zz"), f"value zz {MOST + 1}")
        self.keeps(UnknownName("a"), "endless a 4")
        self.keeps(UnknownName("zz"), f"dark zz {MOST + 1}")

    def test_claims(self):
        self.keeps(InvalidClaim(("tells", "a", (2, 2))), "claim tells a 2,2")
        self.keeps(InvalidClaim(("tells", "zz", (0, -5))), "claim tells zz 0,-5")
        self.keeps(Broken(7, (0, 2)), "claim together c")
        self.keeps(Broken(7, (8, 15)), "claim tells a 7,15")
        self.keeps(Broken(7, 0), "claim covers a")
        self.keeps(Broken(7, None), "claim covers m")
        self.keeps(Broken(7, 1), "claim dark a 3")
        self.keeps(Broken(7, 2), "claim same f g 3")
        self.keeps(Broken(7, (1, 2)), "claim turns f 3")
        self.keeps(Broken(7, 49), "claim zero f 7 50")

    def test_in_use(self):
        for name, index in (("a", 0), ("c", 2), ("f", 4), ("g", 4)):
            self.keeps(InUse(index), f"drop {name}")

    def test_more_than_twelve_facts(self):
        for command in ("dark m 0", "share m", f"dark m {MOST + 1}"):
            self.keeps(InvalidFacts(None), command)
        self.answers("0,1", "joined m")
        self.answers("ok", "facts m" + " 0,2" * 12)
        self.answers("1", "dark m 0")
        self.answers("1/2", "share m")

    def test_quarrels(self):
        self.answers("ok", "facts q 0,5 0,2 3,4")
        self.keeps(Quarrel(1, 2), "joined q")
        self.keeps(Quarrel(1, 2), "rest q 5")

    def test_of_functions(self):
        self.keeps(InvalidSum((0,)), "endless n 5")
        self.keeps(TooGreat(1009), "zeros f 1009")
        self.keeps(TooGreat(2503), "zeros n 2503")
        self.answers(spaced(range(5000)), "zeros n 5000")
        self.keeps(InvalidSum((0,)), "endless n 4")


class Lines(Consoles):
    """Any line does something, or is no command, or raises one of the errors that are told."""

    def test_any_line(self):
        words = [word for command in COMMANDS for word in command.split(" ")] + ["", "-1", "0", "5001", "zz", "0,2", "-0"]
        chance = random.Random(83)
        errors = (Broken, InUse, InvalidClaim, InvalidCommand, InvalidFacts, InvalidIndex, InvalidNumber, InvalidPrime,
                  InvalidSum, NotAThing, NothingToUndo, Quarrel, TooGreat, TooMany, UnknownName)
        done = 0
        for _ in range(4000):
            command = chance.choice(COMMANDS).split(" ")
            for _ in range(chance.choice((0, 1, 1, 2))):
                at = chance.randrange(len(command))
                command[at:at + chance.randint(0, 1)] = [chance.choice(words)]
            before = shown(self.console)
            try:
                answer = self.console.run(" ".join(command))
                self.assertIs(type(answer), str)
                done += 1
            except errors:
                self.assertEqual(shown(self.console), before)
        self.assertGreater(done, 500)
