"""Promises 281 to 283: the lines of a desk and their answers."""

import random
import unittest

from tests.samples import (
    EXAMPLE, FOURTH, HANDLE, KLEIN, ONE_SIDED, PLANE_CIRCLE, QUATERNIONS, TORUS, TURNED, gluing_of, ring)
from tests.test_decide import answered_pairs, other_pairs, same_pairs
from tests.told_moves import SPLIT, told_can, told_gluing, told_moves
from wedgespace.covers import cover_numbers
from wedgespace.decide import decide
from wedgespace.desk import Desk
from wedgespace.forms import standard_form
from wedgespace.gluings import mirror, union
from wedgespace.groups import group_of
from wedgespace.homology import homology
from wedgespace.links import link_numbers
from wedgespace.moves import moves_of
from wedgespace.operations import listed
from wedgespace.rings import axis_of
from wedgespace.skeleton import degrees
from wedgespace.surfaces import simple_vectors
from wedgespace.texts import text_of

PERCENT = chr(37)

# The commands and the kinds of their words: n for a new name, g for a gluing, x for an integer.
WORDS = {
    "ring": "nxx", "drop": "g", "show": "g", "mirror": "ng", "form": "ng", "union": "ngg", "split": "ngx",
    "join": "ngxx", "face": "ngxx", "edge": "ngxx", "size": "g", "corners": "g", "degrees": "g", "links": "g",
    "isjoined": "g", "isclosed": "g", "turns": "g", "symmetries": "g", "moves": "g", "homology": "gx", "group": "g",
    "covers": "gx", "axis": "gxx", "surfaces": "g", "alike": "gg", "decide": "gg"}


def desk_with(**texts):
    """Return a desk with gluings under names."""
    desk = Desk()
    for name, text in texts.items():
        assert desk.answer(f"gluing {name} {text}") == "ok"
    return desk


def full_desk():
    """Return a desk with gluings of all sorts."""
    return desk_with(e=EXAMPLE, r=text_of(ring(5, 2)), o=ONE_SIDED, h=HANDLE, k=KLEIN, t=TORUS, u=TURNED, q=QUATERNIONS,
                     f=FOURTH, p=PLANE_CIRCLE, s=SPLIT, apart=f"{EXAMPLE} / 1:1023 1:1023 1:0132 1:0132",
                     big=text_of(ring(40, 7)), twelve=text_of(ring(12, 5)), more=text_of(ring(13, 5)))


def line_of(command, kinds, name="new", gluing="e", number="0"):
    words = {"n": name, "g": gluing, "x": number}
    return " ".join([command] + [words[kind] for kind in kinds])


def joined(numbers):
    return " ".join(map(str, numbers)) if numbers else "empty"


class LinesTest(unittest.TestCase):
    def check(self, desk, told):
        for line, expected in told:
            self.assertEqual(desk.answer(line), expected, line)

    def test_a_new_desk(self):
        desk = Desk()
        self.assertEqual(desk.names(), [])
        self.assertIsNone(desk.thing("a"))
        self.assertEqual(desk.answers([]), [])

    def test_names_and_things(self):
        desk = Desk()
        told = [("ring b 2 1", "ok"), ("ring a 5 2", "ok"), (f"gluing c {EXAMPLE}", "ok"), ("show b", text_of(ring(2, 1)))]
        self.check(desk, told)
        self.assertEqual(desk.names(), ["a", "b", "c"])
        self.assertEqual(desk.thing("a"), ring(5, 2))
        self.assertEqual(desk.thing("c"), gluing_of(EXAMPLE))
        self.assertIsNone(desk.thing("d"))
        self.assertIsNone(desk.thing("A b"))
        # What is put under a name takes the place of what was there, also if it is made of it.
        self.check(desk, [("ring a 3 1", "ok"), ("size a", "3"), ("union a a a", "ok"), ("size a", "6"), ("mirror b b", "ok")])
        self.assertEqual(desk.thing("a"), union(ring(3, 1), ring(3, 1)))
        self.assertEqual(desk.thing("b"), mirror(ring(2, 1)))
        self.check(desk, [("drop a", "ok"), ("show a", "unknown a"), ("drop a", "unknown a"), ("ring a 1 0", "ok")])
        self.assertEqual(desk.names(), ["a", "b", "c"])
        desk.names().clear()
        self.assertEqual(desk.names(), ["a", "b", "c"])

    def test_desks_have_their_own_gluings(self):
        one, other = Desk(), Desk()
        one.answer("ring a 2 1")
        self.assertEqual((one.names(), other.names()), (["a"], []))

    def test_lines_that_put_gluings(self):
        desk = full_desk()
        told = [("ring a 7 3", ring(7, 3)), ("ring a 12 11", ring(12, 11)), ("mirror a o", mirror(gluing_of(ONE_SIDED))),
                ("mirror a apart", mirror(desk.thing("apart"))), ("form a r", standard_form(ring(5, 2))),
                ("form a k", standard_form(gluing_of(KLEIN))), ("form a twelve", standard_form(ring(12, 5))),
                ("union a k r", union(gluing_of(KLEIN), ring(5, 2))), ("union a r k", union(ring(5, 2), gluing_of(KLEIN))),
                (f"gluing a {KLEIN}", gluing_of(KLEIN)), (f"gluing a {SPLIT}", gluing_of(SPLIT))]
        for name in "eroqfs":
            gluing = desk.thing(name)
            told += [(" ".join([move[0], "a", name, *map(str, move[1:])]), told_gluing(gluing, move))
                     for move in told_moves(len(gluing)) if told_can(gluing, move)]
        for line, expected in told:
            self.assertEqual(desk.answer(line), "ok", line)
            self.assertEqual(desk.thing("a"), expected)
        self.assertTrue({"split", "join", "face", "edge"} <= {line.split()[0] for line, _ in told})

    def test_lines_that_ask(self):
        desk = full_desk()
        self.check(desk, [
            ("show e", EXAMPLE), ("size e", "1"), ("size big", "40"), ("corners e", "2"), ("corners k", "1"),
            ("degrees e", "1 4 1"), ("degrees r", joined(degrees(ring(5, 2)))), ("links e", "2 2"), ("links k", "0"),
            ("isjoined e", "yes"), ("isjoined apart", "no"), ("isclosed e", "yes"), ("isclosed k", "no"),
            ("isclosed apart", "no"), ("isclosed u", "no"), ("turns e", "yes"), ("turns o", "no"), ("turns k", "no"),
            ("symmetries r", "20"), ("moves e", "1"), ("moves r", joined([len(moves_of(ring(5, 2)))])),
            ("homology e 0", "1"), ("homology e 1", "0"), ("homology r 1", "0 5"), ("homology q 1", "0 2 2"),
            ("homology p 1", "1 2"), ("homology o 2", "0 2"), ("homology o 3", "0"), ("group e", "2 3"),
            ("group r", joined([6, len(group_of(ring(5, 2))[1])])), ("covers q 2", "4 4 3"), ("covers e 3", "1 1 0"),
            ("axis e 0 0", "0"), ("axis e 0 1", "0 0 0 0"), ("axis r 2 0", "2 3 4 0 1"), ("surfaces e", "3"),
            ("alike e e", "yes"), ("alike e f", "no"), ("alike e r", "no"), ("decide e e", "same same"),
            ("decide e r", "other homology"), ("decide o r", "other sides"), ("decide e s", "same same"),
            ("ring x 5 1", "ok"), ("decide r x", "open open"), ("mirror x r", "ok"), ("alike x r", "yes")])

    def test_as_the_functions_say(self):
        desk = full_desk()
        for name in "erohqfps":
            gluing = desk.thing(name)
            self.check(desk, [(f"links {name}", joined(link_numbers(gluing))), (f"degrees {name}", joined(degrees(gluing))),
                              (f"show {name}", text_of(gluing)), (f"moves {name}", str(len(moves_of(gluing))))])
            for k in range(4):
                rank, divisors = homology(gluing, k)
                self.check(desk, [(f"homology {name} {k}", joined([rank, *divisors]))])
            for degree in (1, 2, 3):
                self.check(desk, [(f"covers {name} {degree}", joined(cover_numbers(gluing, degree)))])
            for t in range(len(gluing)):
                for e in range(6):
                    self.check(desk, [(f"axis {name} {t} {e}", joined(axis_of(gluing, t, e)))])
            if len(gluing) < 3:
                self.check(desk, [(f"surfaces {name}", str(len(simple_vectors(gluing))))])

    def test_decide(self):
        for one, other in [pair[:2] for pair in other_pairs()] + same_pairs()[:2] + [(ring(5, 1), ring(5, 2))]:
            desk = desk_with(a=text_of(one), b=text_of(other))
            kind = decide(one, other)[0]
            shown = {"same": "same", "open": "open"}.get(kind, "other")
            self.assertEqual(desk.answer("decide a b"), f"{shown} {kind}")

    def test_an_empty_list(self):
        # No gluing has an answer with an empty list.
        self.assertEqual((listed([]), listed([0]), listed([3, -1])), ("empty", "0", "3 -1"))


class RefusalTest(unittest.TestCase):
    def check(self, line, expected):
        desk = full_desk()
        before = {name: desk.thing(name) for name in desk.names()}
        self.assertEqual(desk.answer(line), expected, line)
        self.assertEqual({name: desk.thing(name) for name in desk.names()}, before)

    def test_malformed_lines(self):
        for line in ("", " ", " size e", "size e ", "size  e", "size\te", "size e\n", f"size e{PERCENT}", "size \u00e9"):
            self.check(line, "bad")

    def test_unknown_commands(self):
        for line in ("e", "Size e", "sizes e", "help", "GLUING a", "ok", "bad", "0", "census", "rings a 5 2", "gluing"):
            self.check(line, "bad")

    def test_numbers_of_words(self):
        for command, kinds in WORDS.items():
            line = line_of(command, kinds)
            words = line.split()
            self.check(" ".join(words[:-1]), "bad")
            self.check(command, "bad")
            self.check(f"{line} 0", "bad")
            self.check(f"{line} e", "bad")
            self.check(f"{line} e 0", "bad")

    def test_wrong_names(self):
        for command, kinds in WORDS.items():
            for at, kind in enumerate(kinds):
                wrong = ["q" * 13, "E", "e1", "1", "e-", "07"] if kind in "ng" else ["e", "07", "100", "-1", "00", "1a", "0.", "+1"]
                for word in wrong:
                    words = line_of(command, kinds).split()
                    words[at + 1] = word
                    self.check(" ".join(words), "bad")
                    # Ahead of all that is unknown or refused.
                    others = line_of(command, kinds, gluing="nothing", number="99").split()
                    others[at + 1] = word
                    self.check(" ".join(others), "bad")
        for name in ("q" * 13, "E", "e1", "1", "0:1023"):
            self.check(f"gluing {name} {EXAMPLE}", "bad")
            self.check(f"gluing {name}", "bad")

    def test_unknown_gluings(self):
        for command, kinds in WORDS.items():
            if "g" in kinds:
                self.check(line_of(command, kinds, gluing="nothing"), "unknown nothing")
                self.check(line_of(command, kinds, gluing="q" * 12, number="99"), "unknown " + "q" * 12)
                self.check(line_of(command, kinds, name="nothing", gluing="x", number="99"), "unknown x")
        for command in ("alike", "decide", "union a"):
            self.check(f"{command} x y", "unknown x")
            self.check(f"{command} e y", "unknown y")
            self.check(f"{command} x e", "unknown x")
            # The other gluing would be refused.
            self.check(f"{command} big y", "unknown y")
            self.check(f"{command} apart new", "unknown new")

    def test_wrong_texts(self):
        for text in ("", " x", " 0:1023", " 0:1023 0:1023 0:0132", f" {EXAMPLE} /", " 0:1023 0:1023 0:0132 0:0123",
                     " 1:1023 1:1023 1:0132 1:0132", " / / /", " e", f" {EXAMPLE} / {EXAMPLE}", " 00:1023 0:1023 0:0132 0:0132"):
            self.check(f"gluing new{text}", "refused")
            self.check(f"gluing e{text}", "refused")

    def test_rings_that_there_are_not(self):
        for p, q in ((0, 0), (13, 1), (5, 5), (5, 6), (99, 99), (1, 1)):
            self.check(f"ring e {p} {q}", "refused")

    def test_moves_that_cannot_be_made(self):
        for line in ("split new e 1", "join new e 0 0", "face new e 0 0", "edge new e 0 0", "face new r 0 4", "edge new r 0 6",
                     "edge new r 0 5", "split new r 99", "join new s 0 4", "split new big 0", "face big big 0 2"):
            self.check(line, "refused")

    def test_gluings_that_are_not_closed_or_joined(self):
        for name in ("k", "t", "u", "apart"):
            for line in (f"split new {name} 0", f"face e {name} 0 2", f"moves {name}", f"homology {name} 1", f"group {name}",
                         f"covers {name} 2", f"axis {name} 0 0", f"surfaces {name}", f"decide {name} e", f"decide e {name}"):
                self.check(line, "refused")
        for line in ("form new apart", "turns apart", "symmetries apart", "alike apart e", "alike e apart"):
            self.check(line, "refused")

    def test_too_many_tetrahedra(self):
        for line in ("union new big e", "union big big big", "form new more", "symmetries more", "alike more e", "alike e more",
                     "covers twelve 2", "surfaces p", "surfaces big", "decide twelve e", "decide e twelve", "covers big 1"):
            self.check(line, "refused")
        self.check("symmetries twelve", "48")

    def test_wrong_integers(self):
        for line in ("homology e 4", "homology e 99", "covers e 0", "covers e 4", "axis e 1 0", "axis e 0 6", "axis e 99 99"):
            self.check(line, "refused")


class OrderTest(unittest.TestCase):
    def lines(self, seed):
        """Return random lines, right and wrong ones."""
        rng = random.Random(f"desk {seed}")
        found = []
        for _ in range(60):
            command = rng.choice(list(WORDS) + ["ring"] * 6 + ["gluing", "nothing"])
            if command == "ring":
                p = rng.choice((1, 2, 2, 3, 5))
                found.append(f"ring {rng.choice('abcd')} {p} {rng.randrange(p)}")
            elif command == "gluing":
                found.append(f"gluing {rng.choice('abcd')} {rng.choice((EXAMPLE, KLEIN, ONE_SIDED, '0:0123'))}")
            else:
                kinds = WORDS.get(command, "g")
                words = [str(rng.randrange(4)) if kind == "x" else rng.choice("abcde") for kind in kinds]
                found.append(" ".join([command, *words]))
        return found

    def test_lines_behind_change_nothing(self):
        kinds = set()
        for seed in range(12):
            lines = self.lines(seed)
            whole = Desk().answers(lines)
            kinds |= {answer.split()[0] for answer in whole}
            for k in (1, 7, 23, 50):
                self.assertEqual(Desk().answers(lines[:k]), whole[:k])
            desk = Desk()
            self.assertEqual([desk.answer(line) for line in lines], whole)
        self.assertTrue({"ok", "bad", "refused", "unknown"} <= kinds)

    def test_lines_that_only_ask_change_nothing(self):
        desk = full_desk()
        before = {name: desk.thing(name) for name in desk.names()}
        for command, kinds in WORDS.items():
            if "n" not in kinds and command != "drop":
                desk.answer(line_of(command, kinds))
        self.assertEqual({name: desk.thing(name) for name in desk.names()}, before)

    def test_alike_gluings_are_not_told_apart(self):
        for seed in range(6):
            desk = Desk()
            desk.answers(self.lines(seed))
            for one in desk.names():
                for other in desk.names():
                    if desk.answer(f"alike {one} {other}") == "yes":
                        self.assertNotIn("other", desk.answer(f"decide {one} {other}"))
        for one, other in answered_pairs()[:4]:
            desk = desk_with(a=text_of(one), b=text_of(other))
            desk.answers(["mirror c a", "form d a"])
            self.assertEqual(desk.answers(["alike c a", "alike d a", "decide c a", "decide a d"]),
                             ["yes", "yes", "same same", "same same"])


if __name__ == "__main__":
    unittest.main()
