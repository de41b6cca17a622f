"""[17]: commands as strings, answers as strings."""

import unittest

from asking import row_of, tree_of
from oracle import Choices
from reading import MARKS, marches_in, number_in, place_in, spoilt
from rounds import any_rows, carrying_rows
from wide import EXACTLY_400, EXACTLY_401, GATHER, LONG_STAR, SCALE, STAR, TWICE_401, tip_marches

from onetrain.alike import Alike, held
from onetrain.book import Book
from onetrain.desk import Desk
from onetrain.errors import BadText, TrainError
from onetrain.fates import far, fate, meet
from onetrain.marches import March, after
from onetrain.places import Place
from onetrain.rowtexts import place_text, row_text
from onetrain.trains import train

FORK = [(0, 1, 3), (0, 2, 2), (3, 0, 4)]
BEAM = [(0, 1, 10), (0, 2, 10), (0, 3, 10)]
LINE = [(0, 1, 10)]
LONG = 10 ** 9
MOST = 10 ** 30
DIGITS_32 = "1" + "0" * 31

# For each command the kinds of its words: a name, marches, a place, a number.
FORMS = {
    "keep": "nm", "drop": "n", "post": "p", "call": "n", "back": "", "row": "n", "names": "", "where": "",
    "after": "n#p", "far": "n#p", "held": "nn", "claim": "nn", "train": "n", "fate": "np", "meet": "npp",
}


def words_in(text):
    """The command and its words as values; BadText for a text that is no command."""
    command, *words = text.split(" ")
    if command not in FORMS or "" in words:
        raise BadText(0)
    if command == "keep":
        words[1:] = [" ".join(words[1:])] if words[1:] else []
    if len(words) != len(FORMS[command]):
        raise BadText(0)
    values = [value_of(kind, word) for kind, word in zip(FORMS[command], words)]
    return (command, values)


def value_of(kind, word):
    if kind == "n":
        return word
    found = {"m": marches_in, "p": place_in, "#": number_in}[kind](word)
    if found is None or (kind == "m" and isinstance(found, int)):
        raise BadText(0)
    if kind == "m":
        return [March(Place(*goal), steps) for goal, steps in found]
    return Place(*found) if kind == "p" else found


def answer_of(book, command, values):
    """What the functions return for the rows as they are, told as the document says."""
    if command in ("names", "where"):
        return [one if command == "names" else place_text(one) for one in getattr(book, command)()]
    if command in ("keep", "drop", "post", "call", "back"):
        getattr(book, command)(*values)
        return ["done"]
    if command == "claim":
        return [str(book.claim(*values)).lower()]
    rows = [book.row(name) for name, kind in zip(values, FORMS[command]) if kind == "n"]
    rest = [value for value, kind in zip(values, FORMS[command]) if kind != "n"]
    if command == "row":
        return [row_text(*rows)]
    if command == "after":
        return [place_text(after(*rows, rest[1], rounds=rest[0]))]
    if command == "far":
        return [place_text(far(*rows, rest[1], rest[0]))]
    if command == "held":
        found = held(*rows)
        return ["alike" if found == Alike() else "parted " + place_text(found.place)]
    if command == "train":
        found = train(*rows)
        return [" ".join([place_text(found.one), place_text(found.other), "turned" if found.is_turned else "still"])]
    if command == "fate":
        return [" ".join(str(number) for number in fate(*rows, *rest))]
    found = meet(*rows, *rest)
    return ["never" if found is None else str(found)]


def second_answer(book, text):
    """The answer of a second desk with this book."""
    try:
        return answer_of(book, *words_in(text))
    except TrainError as error:
        return ["refused " + type(error).__name__.lower()]


def state_of(desk):
    book = desk.book
    return (
        [(name, row_text(book.row(name))) for name in book.names()], [place_text(place) for place in book.where()],
        book.claims(), book.many(),
    )


class Desks(unittest.TestCase):
    def setUp(self):
        self.at(FORK)

    def at(self, roads):
        self.desk = Desk(tree_of(roads))

    def told(self, command, *answer):
        found = self.desk.tell(command)
        self.assertIs(type(found), list)
        self.assertEqual(found, list(answer))

    def done(self, *commands):
        for command in commands:
            self.told(command, "done")

    def refused(self, command, error):
        before = state_of(self.desk)
        self.told(command, "refused " + error)
        self.assertEqual(state_of(self.desk), before)

    def filled(self):
        self.done("keep a 0:3 2, 2:0 2", "keep b 0:3 1, 0:3 1, 2:0 2", "keep c 1:2 1", "keep n none", "post 0:3",
                  "post 1:1/2", "call a")
        self.told("claim a b", "true")


class Answers(Desks):
    def test_keep_row_and_names(self):
        self.done("keep b 0:0 2, 2:4 1")
        self.told("row b", "0:0 2, 2:4 1")
        self.done("keep a none")
        self.told("row a", "none")
        self.told("names", "a", "b")
        self.done("keep b 0:4/2 3")
        self.told("row b", "0:2 3")

    def test_no_names_and_no_people(self):
        self.told("names")
        self.told("where")

    def test_drop(self):
        self.filled()
        self.done("drop a")
        self.told("names", "b", "c", "n")
        self.refused("row a", "norow")
        self.refused("drop a", "norow")

    def test_post_where_and_call(self):
        self.done("post 2:4", "post 1:2/4", "post 0:3", "keep a 0:3 2")
        self.told("where", "0:0", "1:1/2", "0:3")
        self.done("call a")
        self.told("where", "0:2", "0:3/2", "0:3")
        self.done("call a")
        self.told("where", "0:3", "0:3", "0:3")
        self.done("call a")
        self.assertEqual(self.desk.book.many(), 6)

    def test_back(self):
        self.refused("back", "noback")
        self.done("keep a 0:0 1", "post 0:3", "call a", "back")
        self.told("where", "0:3")
        self.done("back", "back")
        self.told("names")
        self.refused("back", "noback")

    def test_after(self):
        self.done("keep a 0:3 2")
        self.told("after a 1 1:1", "0:1")
        self.told("after a 0 2:4", "0:0")
        self.told("after a 2 2:9/4", "0:9/4")
        self.told("after a 1000 2:4/16", "0:3")
        self.refused("after a 1001 1:1", "badcount")
        self.refused(f"after a {MOST} 1:1", "badcount")

    def test_far(self):
        self.done("keep a 0:3 2, 2:0 2")
        self.told("far a 0 2:4", "0:0")
        self.told(f"far a {MOST} 0:3", "0:1")
        self.told("far a 1001 0:3", "0:1")
        self.told("far a 7 2:5/2", "2:5/2")
        self.refused(f"far a {MOST + 1} 0:3", "badcount")
        self.refused("far a " + "9" * 31 + " 0:3", "badcount")
        self.refused(f"far a {DIGITS_32} 0:3", "badtext")

    def test_held_and_claim(self):
        self.done("keep a 0:3 2", "keep b 0:3 1, 0:3 1", "keep c 0:3 1")
        for command in ("held a b", "held b a", "held a a"):
            self.told(command, "alike")
        self.told("held a c", "parted 0:0")
        self.told("held c b", "parted 0:0")
        self.assertEqual(self.desk.book.claims(), [])
        self.told("claim c a", "false")
        self.told("claim a b", "true")
        self.told("claim b b", "true")
        self.assertEqual(self.desk.book.claims(), [("a", "b", True), ("a", "c", False), ("b", "b", True)])
        self.done("drop b")
        self.assertEqual(self.desk.book.claims(), [("a", "c", False)])
        self.done("back")
        self.assertEqual(len(self.desk.book.claims()), 3)

    def test_the_place_where_rows_part(self):
        self.done("keep a 0:0 1", "keep b 1:0 1, 2:0 1")
        self.told("held a b", second_answer(self.desk.book, "held a b")[0])
        self.at(LINE)
        self.done("keep a 0:0 4", "keep b 0:0 5")
        self.told("held a b", "parted 0:5")

    def test_train_fate_and_meet(self):
        self.done("keep a 0:3 2, 2:0 2")
        self.told("train a", "0:1 2:0 still")
        self.told("fate a 0:3", "1 1")
        self.told("fate a 0:3/2", "1 1")
        self.told("fate a 0:1/2", "0 1")
        self.told("meet a 0:3 0:2", "1")
        self.told("meet a 0:3 0:3", "0")
        self.told("meet a 0:1 2:0", "never")
        self.at(BEAM)
        self.done("keep a 1:10 5, 2:10 6, 0:10 5")
        self.told("train a", "0:0 0:4 turned")
        self.told("fate a 0:1", "0 2")
        self.told("fate a 2:0", "0 2")
        self.at(LINE)
        self.done("keep a 0:10 1")
        self.told("train a", "0:10 0:10 still")
        self.told("fate a 0:1/3", "10 1")
        self.told("meet a 0:0 0:9", "10")

    def test_by_keyword(self):
        desk = Desk(tree=tree_of(FORK))
        self.assertEqual(desk.tell(row="keep a 0:0 1"), ["done"])
        self.assertEqual(desk.tell(row="names"), ["a"])

    def test_tell_stands_in_the_class_itself(self):
        self.assertIn("tell", vars(Desk))

    def test_the_returned_list_belongs_to_the_caller(self):
        self.filled()
        for command in ("names", "where", "row a", "train a", "back x", "held a c"):
            found = self.desk.tell(command)
            kept = list(found)
            found.append("x")
            found[0] = "y"
            self.assertEqual(self.desk.tell(command), kept)

    def test_desks_do_not_affect_one_another(self):
        tree = tree_of(FORK)
        self.desk, other = Desk(tree), Desk(tree)
        self.filled()
        before = state_of(self.desk)
        self.assertEqual(other.tell("names"), [])
        for command in ("keep a 0:0 1", "post 0:1", "call a", "back", "back"):
            self.assertEqual(other.tell(command), ["done"])
        self.assertEqual(state_of(self.desk), before)

    def test_long_texts_of_places(self):
        self.at([(0, 1, LONG)])
        self.done("keep a 0:0 1000000000", f"post 0:1/{MOST}", f"post 0:{MOST + 1}/{MOST}")
        self.told("where", f"0:1/{MOST}", f"0:{MOST + 1}/{MOST}")
        self.done("keep a 0:1000000000 999999999", "call a")
        self.told("where", f"0:{999999999 * MOST + 1}/{MOST}", f"0:{10 ** 9}")
        self.assertGreater(len(self.desk.tell("where")[0].split("/")[0]), 32)


class Parsing(Desks):
    def setUp(self):
        Desks.setUp(self)
        self.filled()

    def test_unknown_commands(self):
        for command in ["", " ", "x", "keeps", "KEEP a none", "Keep a none", "keepa none", "many", "claims", "names a", "help",
                        "back 1", "where a", "backs", "refused", "done", "settled a", "fewest", "none", "0:0 2", "kee a none",
                        "step", "doing a", "is_train a", "__init__", "tell", "row"]:
            self.refused(command, "badtext")

    def test_words_missing_or_too_many(self):
        for command in [
            "keep", "keep a", "keep none", "drop", "drop a b", "post", "post 0:1 0:1", "call", "call a b", "back a", "row",
            "row a b", "names a", "where 0:1", "after", "after a", "after a 1", "after 1 0:1", "after a 0:1", "after a 1 0:1 0:1",
            "far", "far a", "far a 1", "far a 0:1", "far a 1 0:1 1", "held", "held a", "held a b c", "claim", "claim a",
            "claim a b c", "train", "train a b", "fate", "fate a", "fate 0:1", "fate a 0:1 0:1", "meet", "meet a", "meet a 0:1",
            "meet 0:1 0:1", "meet a 0:1 0:1 0:1", "keep a none none", "keep a b none", "keep a none, none",
        ]:
            self.refused(command, "badtext")

    def test_blanks(self):
        for command in ["keep a none", "keep a 0:0 2, 0:1 3", "drop a", "post 0:1", "call a", "back", "row a", "names", "where",
                        "after a 1 0:1", "far a 1 0:1", "held a b", "claim a b", "train a", "fate a 0:1", "meet a 0:1 0:2"]:
            self.refused(" " + command, "badtext")
            self.refused(command + " ", "badtext")
            self.refused(command + "  ", "badtext")
            for at, mark in enumerate(command):
                if mark == " ":
                    self.refused(command[:at] + " " + command[at:], "badtext")

    def test_places_and_numbers_of_another_form(self):
        for place in ["0", "0:", ":0", "0:1/1", "0:2/0", "0:1/", "0:1/02", "00:1", "0:01", "-1:0", "0:-1", "0:1.5", "a:1", "0:1,",
                      "0/1", "0:1:2", "0:" + DIGITS_32, "a", "none"]:
            for command in ["post {}", "after a 1 {}", "far a 1 {}", "fate a {}", "meet a {} 0:1", "meet a 0:1 {}"]:
                self.refused(command.format(place), "badtext")
        for number in ["x", "-1", "+1", "01", "00", "1.0", "1e3", "0:1", DIGITS_32, "1_0"]:
            self.refused(f"after a {number} 0:1", "badtext")
            self.refused(f"far a {number} 0:1", "badtext")

    def test_places_in_lowest_terms_or_not(self):
        for place, text in [("0:2/2", "0:1"), ("0:3/2", "0:3/2"), ("0:6/4", "0:3/2"), ("2:8/2", "0:0"), ("1:0/9", "0:0")]:
            self.told(f"after n 1 {place}", text)
            self.told(f"far a 0 {place}", text)

    def test_marches_of_another_form(self):
        for marches in ["x", "0:0", "0:0 2,", "0:0 2,0:1 2", "0:0 2 , 0:1 2", ", 0:0 2", "0:0 2, ", "none, 0:0 2", "0:0 2, none",
                        "None", "0:1/1 2", "0:1/0 2", "0:0 02", "0:0 -2", "0:0 2 0:1 3", "0:0 " + DIGITS_32, "0:0 2, x, 0:1 2"]:
            for name in ("a", "d", "A", "toolongname"):
                self.refused(f"keep {name} {marches}", "badtext")

    def test_names_of_any_characters(self):
        for name in ["A", "1", "a_b", "~", "0:0", ",", "a,", "a" * 9, "a" * 500, "-", "'", '"', "\\", "a/b", "{}"]:
            self.refused(f"keep {name} 0:0 2", "noname")
            for command in ["drop {}", "call {}", "row {}", "after {} 1 0:1", "far {} 1 0:1", "held {} a", "held a {}",
                            "claim {} a", "claim a {}", "train {}", "fate {} 0:1", "meet {} 0:1 0:2"]:
                self.refused(command.replace("{}", name), "norow")

    def test_names_that_are_commands(self):
        self.done("keep keep 0:0 2", "keep none none", "keep back 0:0 1")
        self.told("row keep", "0:0 2")
        self.told("row none", "none")
        self.told("held none n", "alike")
        self.done("drop back", "drop keep")

    def test_one_character_inserted_removed_or_replaced(self):
        # Against a second desk, from the same state each time.
        commands = ["keep a 0:0 2", "keep d none", "drop a", "post 0:1/2", "call a", "back", "row b", "names", "where",
                    "after a 1 0:1", "far a 12 0:1", "held a c", "claim a c", "train a", "fate a 0:2", "meet a 0:1 0:3"]
        marks = [mark for mark in " ,:/0129abnA~-" if mark in MARKS]
        before = state_of(self.desk)
        answers = set()
        for command in commands:
            for text in [command, *spoilt(command, marks)]:
                answer = self.desk.tell(text)
                after_it = state_of(self.desk)
                while self.desk.book.many() > before[-1]:
                    self.desk.tell("back")
                if self.desk.book.many() < before[-1]:
                    self.assertEqual(text, "back")
                    self.at(FORK)
                    self.filled()
                self.assertEqual(state_of(self.desk), before)
                self.assertEqual(answer, second_answer(self.desk.book, text))
                self.assertEqual(state_of(self.desk), after_it)
                while self.desk.book.many() > before[-1]:
                    self.desk.tell("back")
                if self.desk.book.many() < before[-1]:
                    self.at(FORK)
                    self.filled()
                if answer[:1] and answer[0].startswith("refused"):
                    self.assertEqual(after_it, before)
                answers.add(answer[0] if answer else "")
        for error in ("badtext", "norow", "noname", "badcount", "noroad", "offroad"):
            self.assertIn("refused " + error, answers)


class Order(Desks):
    """The order of the refusals when several things are wrong at once."""

    def setUp(self):
        Desks.setUp(self)
        self.filled()

    def test_the_whole_command_is_parsed_first(self):
        for command in ["after x 1 0:1/1", "after x y 9:0", "far x -1 9:0", "fate x 9", "meet x 9:0 9", "meet x 9 9:0", "held x",
                        "claim x y z", "keep A x", "keep A 9:0 0, x", "keep toolongname 0:0", "post 9", "drop", "train x y",
                        f"after x {DIGITS_32} 9:0"]:
            self.refused(command, "badtext")

    def test_rows_before_places_and_numbers(self):
        for command in ["after x 1001 9:0", "far x 9999999999999999999999999999999 9:0", "fate x 9:0", "meet x 9:0 9:0",
                        "meet x 0:9 9:0", "held x y", "held x a", "held a x", "claim x y", "claim a x", "call x", "train x"]:
            self.refused(command, "norow")

    def test_places_before_numbers(self):
        self.refused("after a 1001 9:0", "noroad")
        self.refused("after a 1001 0:4", "offroad")
        self.refused("after a 1001 0:1", "badcount")
        self.refused("far a 9999999999999999999999999999999 9:0", "noroad")
        self.refused("far a 9999999999999999999999999999999 0:4", "offroad")
        self.refused("far a 9999999999999999999999999999999 0:1", "badcount")

    def test_places_in_their_order(self):
        self.refused("meet a 9:0 0:4", "noroad")
        self.refused("meet a 0:4 9:0", "offroad")
        self.refused("meet a 0:1 9:0", "noroad")

    def test_rows_without_marches(self):
        for command in ["train n", "fate n 9:0", "far n 9999999999999999999999999999999 9:0", "meet n 9:0 0:4", "fate n 0:1"]:
            self.refused(command, "badcount")
        self.told("after n 1000 0:1", "0:1")
        self.refused("after n 1 9:0", "noroad")

    def test_keep(self):
        for number in range(4):
            self.done(f"keep r{number} 0:0 1")
        self.refused("keep R 9:0 0", "noname")
        self.refused("keep r4 9:0 0", "badcount")
        self.refused("keep a 9:0 0", "noroad")
        self.refused("keep a 0:4 0", "offroad")
        self.refused("keep a 0:4/3 0", "notwhole")
        self.refused("keep a 0:4/2 0", "badcount")
        self.refused("keep a 0:4/2 1000000001", "badcount")
        self.refused("keep a " + ", ".join(["9:0 0"] * 25), "badcount")
        self.refused("keep a " + ", ".join(["9:0 0"] * 24), "noroad")
        self.refused("keep a " + ", ".join(["9:0 0"] * 25) + ",", "badtext")
        self.done("keep a 0:4/2 1000000000")

    def test_people(self):
        self.refused("post 9:0", "noroad")
        self.refused("post 0:4", "offroad")
        for _ in range(22):
            self.done("post 0:1")
        self.refused("post 9:0", "noroad")
        self.refused("post 0:10/3", "offroad")
        self.refused("post 0:1", "badcount")
        self.assertEqual(len(self.desk.tell("where")), 24)


class Limits(Desks):
    def test_rows_that_are_too_wide(self):
        self.at(STAR)
        for name, pairs in [("wide", EXACTLY_401), ("fine", EXACTLY_400), ("twice", TWICE_401), ("all", EXACTLY_401 + GATHER)]:
            self.done(f"keep {name} " + row_text(row_of(STAR, tip_marches(pairs))))
        for command in ["held wide fine", "held fine wide", "claim wide fine", "claim wide wide", "train wide", "train all",
                        "train fine", "train twice", "held twice all"]:
            self.refused(command, "wide")
        self.refused("held wide x", "norow")
        self.told("held fine fine", "alike")
        self.told("claim twice twice", "true")
        self.told("after all 1 3:7", "0:100")
        for command in ("fate wide 3:7", "far wide 5 3:7", "meet wide 3:7 4:7", "fate all 3:7", "after wide 9 3:7"):
            found = self.desk.tell(command)
            self.assertEqual(found, second_answer(self.desk.book, command))
            self.assertFalse(found[0].startswith("refused"))
        self.done("post 3:7", "call wide")

    def test_people_who_need_more_than_2000_rounds(self):
        self.at(LONG_STAR)
        self.done(f"keep a 0:{100 * SCALE} 1")
        near, at, beyond = (f"0:{100 * SCALE - rounds}" for rounds in (1999, 2000, 2001))
        self.told(f"fate a {near}", "1999 1")
        self.told(f"fate a {at}", "2000 1")
        self.refused(f"fate a {beyond}", "wide")
        self.told(f"far a 2000 {beyond}", f"0:{100 * SCALE - 1}")
        self.refused(f"far a 2001 {beyond}", "wide")
        self.told(f"far a {MOST} {at}", f"0:{100 * SCALE}")
        self.told(f"meet a {near} {at}", "2000")
        self.refused(f"meet a {beyond} {at}", "wide")
        self.told(f"meet a {beyond} {beyond}", "0")
        self.told("meet a 1:5 2:5", "5")
        self.refused("meet a 1:2001 2:2001", "wide")


class AgainstFunctions(unittest.TestCase):
    """Each answer compared with what the functions return for the rows as they are then."""

    def command(self, choices, roads, names):
        """A random command, nearly always in the right form."""
        kinds = sorted(FORMS)
        command = kinds[choices.below(len(kinds))] if choices.below(3) else ["keep", "call", "back", "post"][choices.below(4)]
        words = [command]
        for kind in FORMS[command]:
            road = choices.below(len(roads) + (choices.below(20) == 0))
            place = f"{road}:{choices.below(5)}" + ["", "/2", "/3", f"/{2 + choices.below(4)}"][choices.below(4)]
            words.append({
                "n": names[choices.below(len(names))],
                "p": place,
                "#": str([0, 1, 2, 7, 1001][choices.below(5)]),
                "m": self.marches(choices, roads),
            }[kind])
        if choices.below(15) == 0:
            words.insert(choices.below(len(words) + 1), ["", "a", "0:1", "x"][choices.below(4)])
        return " ".join(words)

    def marches(self, choices, roads):
        marches = choices.marches(roads, choices.below(4), 3)
        return ", ".join(f"{road}:{number} {steps}" for road, number, steps in marches) or "none"

    def test_many_uses(self):
        answers = {}
        for seed in range(25):
            choices = Choices(13000 + seed)
            roads = choices.roads(2 + choices.below(5), 4)
            names = ["a", "b", "c1", "d", "e", "f", "g", "h", "ii", "jj", "K"][:3 + 2 * (seed % 5)] + ["zz"]
            desk, book = Desk(tree_of(roads)), Book(tree_of(roads))
            for _ in range(150):
                command = self.command(choices, roads, names)
                before = state_of(desk)
                found = desk.tell(command)
                self.assertEqual(found, second_answer(book, command))
                self.assertEqual(desk.tell("where"), [place_text(place) for place in book.where()])
                self.assertEqual(state_of(desk)[2:], (book.claims(), book.many()))
                if found and found[0].startswith("refused"):
                    self.assertEqual(state_of(desk), before)
                answers.setdefault(command.split(" ")[0], set()).add(found[0].split(" ")[0] if found else "")
        for command in FORMS:
            self.assertGreater(len(answers[command]), 1)

    def test_answers_about_rows_of_many_kinds(self):
        rows = any_rows(13100, 25) + carrying_rows(13200, 25) + carrying_rows(13300, 10, turned=True)
        for at, (roads, marches) in enumerate(rows):
            choices = Choices(13400 + at)
            desk, book = Desk(tree_of(roads)), Book(tree_of(roads))
            row = row_of(roads, marches)
            book.keep("a", row.marches)
            self.assertEqual(desk.tell("keep a " + row_text(row)), ["done"])
            self.assertEqual(desk.tell("train a"), second_answer(book, "train a"))
            self.assertFalse(desk.tell("train a")[0].startswith("refused"))
            for _ in range(6):
                road = choices.below(len(roads))
                one = f"{road}:{choices.below(2 * roads[road][2] + 1)}/2"
                other = f"{road}:{choices.below(3 * roads[road][2] + 1)}/3"
                for command in (f"fate a {one}", f"far a {MOST} {one}", f"far a 3 {other}", f"meet a {one} {other}",
                                f"after a 2 {one}"):
                    found = desk.tell(command)
                    self.assertEqual(found, second_answer(book, command))
                    self.assertFalse(found[0].startswith("refused"))


if __name__ == "__main__":
    unittest.main()
