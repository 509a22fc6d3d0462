"""[10.2] the rows of the desk and their answers, [10.3] what is refused, and in which order."""

import unittest
from fractions import Fraction

from endsum import errors
from endsum.desk import Desk
from endsum.drawings import Drawing, beside
from endsum.errors import (EndError, NoDrawing, NoJoin, NoLeg, NoMatch, NoCounts, NoName, NoRow,
                           NoStock, NotThere, NoText, TooMany)
from endsum.likeness import alike, least, turns
from endsum.lists import drawings, sum_all
from endsum.parts import cut, cuts, is_free, is_whole, join_legs, parts
from endsum.series import all_sums, free_sums, whole_sums
from endsum.stocks import Stock
from endsum.texts import read_drawing, show_drawing, show_stock
from endsum.trees import rings, tree_count
from tests.samples import (all_drawings, every_kind_of_stock, loose, mixed, odd_things, paired,
                           unlike_drawings)

THRICE = "corner k / corner k / join 0 a 1 a / join 0 a 1 a / join 0 a 1 a"
BELL = "corner k / corner k / join 0 a 0 a / join 0 a 1 a / join 1 a 1 a"
LEGGED = "corner k / leg x a / leg y a / leg z a / join 0 a 1 a / join 0 a 2 a / join 0 a 3 a"
STOCK = "sort a a / kind k a a a"
ASKING = ["show", "turns", "trees", "rings", "parts", "cuts", "whole", "free"]


def desk_with(stock, **drawn):
    """A desk with a stock and some drawings of it."""
    desk = Desk()
    desk.say("stock " + (stock if isinstance(stock, str) else show_stock(stock)))
    for name, drawing in drawn.items():
        desk.say(f"draw {name} " + (drawing if isinstance(drawing, str) else show_drawing(drawing)))
    return desk


def usual():
    """A desk with three drawings of corners with three ends."""
    return desk_with(STOCK, thrice=THRICE, bell=BELL, legged=LEGGED)


def state_of(desk):
    """All that a desk tells of its drawings."""
    names = desk.say("names")
    return [names] + [desk.say("show " + name) for name in names.split(" ") if names != "-"]


def told(pair):
    """A fraction as a desk tells it."""
    return f"{pair[0]}/{pair[1]}"


class Answers(unittest.TestCase):
    def test_stock(self):
        desk = Desk()
        self.assertEqual(desk.say("stock " + STOCK), "ok")
        self.assertEqual(desk.say("names"), "-")
        for stock, _, _ in every_kind_of_stock():
            self.assertEqual(desk.say("stock " + show_stock(stock)), "ok")

    def test_stock_told_once_more(self):
        desk = usual()
        self.assertEqual(desk.say("stock " + STOCK), "ok")
        self.assertEqual(desk.say("names"), "-")
        with self.assertRaises(NotThere):
            desk.say("show bell")
        desk = usual()
        self.assertEqual(desk.say("stock sort b b / kind k b b"), "ok")
        self.assertEqual(desk.say("names"), "-")
        self.assertEqual(desk.say("draw bell corner k / join 0 b 0 b"), "ok")
        self.assertEqual(desk.say("all k k"), "2 3/8")

    def test_draw_and_show(self):
        for drawing in all_drawings():
            desk = desk_with(drawing.stock)
            text = show_drawing(drawing)
            self.assertEqual(desk.say("draw it " + text), "ok")
            self.assertEqual(desk.say("show it"), text or "-")
            self.assertEqual(desk.say("names"), "it")

    def test_the_drawing_without_anything(self):
        desk = desk_with(STOCK)
        self.assertEqual(desk.say("draw none "), "ok")
        self.assertEqual(desk.say("show none"), "-")
        self.assertEqual(desk.say("names"), "none")
        answers = [desk.say(f"{word} none") for word in ASKING]
        self.assertEqual(answers, ["-", "1", "1", "0", "0", "0", "no", "no"])
        self.assertEqual(desk.say("alike none none"), "yes")

    def test_in_the_place_of_one_called_so(self):
        desk = usual()
        self.assertEqual(desk.say("draw bell " + THRICE), "ok")
        self.assertEqual(desk.say("show bell"), THRICE)
        self.assertEqual(desk.say("names"), "bell legged thrice")
        self.assertEqual(desk.say("least legged thrice"), "ok")
        self.assertEqual(desk.say("names"), "bell legged thrice")
        self.assertEqual(desk.say("show legged"), THRICE)
        self.assertEqual(desk.say("draw bell "), "ok")
        self.assertEqual(desk.say("show bell"), "-")
        self.assertEqual(desk.say("beside legged legged legged"), "ok")
        self.assertEqual(desk.say("turns legged"), str(2 * 12 * 12))
        self.assertEqual(desk.say("show thrice"), THRICE)

    def test_names(self):
        desk = desk_with(STOCK)
        self.assertEqual(desk.say("names"), "-")
        for name in ("zz", "b", "abcdefgh", "z", "a", "names", "stock"):
            desk.say(f"draw {name} ")
        self.assertEqual(desk.say("names"), "a abcdefgh b names stock z zz")

    def test_what_is_asked_of_one(self):
        for drawing in all_drawings():
            desk = desk_with(drawing.stock, it=drawing)
            self.assertEqual(desk.say("turns it"), str(turns(drawing)))
            self.assertEqual(desk.say("trees it"), str(tree_count(drawing)))
            self.assertEqual(desk.say("rings it"), str(rings(drawing)))
            self.assertEqual(desk.say("parts it"), str(len(parts(drawing))))
            self.assertEqual(desk.say("cuts it"), str(len(cuts(drawing))))
            self.assertEqual(desk.say("whole it"), "yes" if is_whole(drawing) else "no")
            self.assertEqual(desk.say("free it"), "yes" if is_free(drawing) else "no")
            self.assertEqual(desk.say("least other it"), "ok")
            self.assertEqual(desk.say("show other"), show_drawing(least(drawing)) or "-")
            self.assertEqual(desk.say("show it"), show_drawing(drawing) or "-")

    def test_some_answers(self):
        desk = usual()
        self.assertEqual([desk.say(f"{word} thrice") for word in ASKING[1:]], ["12", "3", "2", "1", "0", "yes", "yes"])
        self.assertEqual([desk.say(f"{word} bell") for word in ASKING[1:]], ["8", "1", "2", "1", "1", "yes", "no"])
        self.assertEqual([desk.say(f"{word} legged") for word in ASKING[1:]], ["1", "1", "0", "1", "0", "yes", "yes"])

    def test_alike(self):
        stock = loose(3, 1)
        several = unlike_drawings(stock, ["k", "k", "l", "l"], [])
        desk = desk_with(stock, **dict(zip("abcdefghijklmnop", several)))
        for one, name in zip(several, "abcdefghijklmnop"):
            for other, other_name in zip(several, "abcdefghijklmnop"):
                wanted = "no" if alike(one, other) is None else "yes"
                self.assertEqual(desk.say(f"alike {name} {other_name}"), wanted)

    def test_beside(self):
        desk = usual()
        self.assertEqual(desk.say("beside all bell legged"), "ok")
        both = beside(read_drawing(loose(3), BELL), read_drawing(loose(3), LEGGED))
        self.assertEqual(desk.say("show all"), show_drawing(both))
        self.assertEqual(desk.say("parts all"), "2")
        self.assertEqual(desk.say("beside more legged bell"), "ok")
        self.assertNotEqual(desk.say("show more"), desk.say("show all"))

    def test_cut_and_sew(self):
        desk = usual()
        self.assertEqual(desk.say("cut open bell 0 a 1 a p q"), "ok")
        bell = read_drawing(loose(3), BELL)
        self.assertEqual(desk.say("show open"), show_drawing(cut(bell, (0, "a", 1, "a"), ("p", "q"))))
        self.assertEqual(desk.say("parts open"), "2")
        self.assertEqual(desk.say("sew again open p q"), "ok")
        self.assertEqual(desk.say("show again"), BELL)
        self.assertEqual(desk.say("cut other bell 0 a 1 a q p"), "ok")
        self.assertNotEqual(desk.say("show other"), desk.say("show open"))
        self.assertEqual(desk.say("sew again legged x z"), "ok")
        self.assertEqual(desk.say("show again"), "corner k / leg y a / join 0 a 0 a / join 0 a 1 a")
        self.assertEqual(desk.say("show legged"), LEGGED)

    def test_cut_and_sew_with_sorts(self):
        stock = paired()
        ring = Drawing(stock, ["k"] * 2, [], [(0, "in", 1, "out"), (0, "out", 1, "in")])
        desk = desk_with(stock, ring=ring)
        desk.say("cut open ring 0 out 1 in p q")
        opened = cut(ring, (0, "out", 1, "in"), ("p", "q"))
        self.assertEqual(desk.say("show open"), show_drawing(opened))
        desk.say("sew shut open q p")
        self.assertEqual(desk.say("show shut"), show_drawing(join_legs(opened, "q", "p")))

    def test_all(self):
        for stock, corners, _ in every_kind_of_stock():
            if corners:
                desk = desk_with(stock)
                wanted = f"{len(drawings(stock, corners, []))} {told(sum_all(stock, corners, []))}"
                self.assertEqual(desk.say("all " + " ".join(corners)), wanted)
                self.assertEqual(desk.say("names"), "-")
        desk = desk_with(STOCK)
        self.assertEqual(desk.say("all k k"), "2 5/24")
        self.assertEqual(desk.say("all k"), "0 0/1")
        self.assertEqual(desk.say("all k k k k"), "8 385/1152")

    def test_all_with_whole_sums(self):
        desk = desk_with("sort a a / kind k a / kind l a a")
        self.assertEqual(desk.say("all k k"), "1 1/2")
        self.assertEqual(desk.say("all l k k"), "2 3/4")

    def test_sums(self):
        for stock, most in ((loose(3), (4,)), (loose(4, 3), (1, 2)), (paired(), (2, 2)), (mixed(), (1, 2, 0)),
                            (loose(2, 1), (0, 0)), (loose(2, 1), (0, 2))):
            desk = desk_with(stock)
            wanted = [told(sums(stock, most, [])[-1][1]) for sums in (all_sums, whole_sums, free_sums)]
            self.assertEqual(desk.say("sums " + " ".join(str(count) for count in most)), " ".join(wanted))
        desk = desk_with(STOCK)
        self.assertEqual(desk.say("sums 0"), "1/1 0/1 0/1")
        self.assertEqual(desk.say("sums 1"), "0/1 0/1 0/1")
        self.assertEqual(desk.say("sums 2"), "5/24 5/24 1/12")
        self.assertEqual(desk.say("sums 4"), "385/1152 5/16 5/48")

    def test_sums_are_those_over_the_drawings(self):
        stock = loose(3, 1)
        desk = desk_with(stock)
        for many, others in ((1, 1), (2, 0), (2, 2), (1, 3)):
            rows = drawings(stock, ["k"] * many + ["l"] * others, [])
            wanted = []
            for fits in (lambda drawing: True, is_whole, is_free):
                total = sum((Fraction(1, turns(row)) for row in rows if fits(row)), Fraction(0))
                wanted.append(f"{total.numerator}/{total.denominator}")
            self.assertEqual(desk.say(f"sums {many} {others}"), " ".join(wanted))

    def test_answers_are_texts(self):
        desk = usual()
        for row in ("stock " + STOCK, "draw bell " + BELL, "names", "show bell", "turns bell", "trees bell",
                    "rings bell", "parts bell", "cuts bell", "alike bell bell", "whole bell", "free bell", "all k k",
                    "sums 2", "least a bell", "beside b bell a", "cut c bell 0 a 1 a p q", "sew d c p q"):
            self.assertIs(desk.say(row).__class__, str)

    def test_asking_changes_nothing(self):
        desk = usual()
        before = state_of(desk)
        for row in [f"{word} bell" for word in ASKING] + ["names", "alike bell thrice", "all k k", "sums 2"]:
            desk.say(row)
            self.assertEqual(state_of(desk), before)

    def test_two_desks_know_nothing_of_one_another(self):
        one, other = usual(), Desk()
        with self.assertRaises(NotThere) as caught:
            other.say("names")
        self.assertEqual(caught.exception.name, "stock")
        other.say("stock sort b b / kind k b b")
        self.assertEqual(other.say("names"), "-")
        other.say("draw bell ")
        self.assertEqual(one.say("show bell"), BELL)
        self.assertEqual(other.say("names"), "bell")
        self.assertEqual(one.say("names"), "bell legged thrice")
        one.say("stock " + STOCK)
        self.assertEqual(other.say("names"), "bell")

    def test_many_rows(self):
        stock = mixed()
        desk = desk_with(stock)
        several = unlike_drawings(stock, ["k", "l", "m"], [("p", "out")])
        for at in range(600):
            drawing = several[at % len(several)]
            name = "abcdefgh"[at % 8]
            self.assertEqual(desk.say(f"draw {name} " + show_drawing(drawing)), "ok")
            self.assertEqual(desk.say(f"turns {name}"), str(turns(drawing)))
            self.assertEqual(desk.say(f"least {name} {name}"), "ok")
            self.assertEqual(desk.say(f"show {name}"), show_drawing(least(drawing)))
        self.assertEqual(desk.say("names"), "a b c d e f g h")


class Refusals(unittest.TestCase):
    def check(self, desk, row, refusal, value=None):
        """A row is refused so, and changes nothing."""
        before = state_of(desk)
        with self.assertRaises(EndError) as caught:
            desk.say(row)
        self.assertIs(caught.exception.__class__, refusal, row)
        for name in ("part", "at", "name"):
            if hasattr(caught.exception, name):
                self.assertEqual(getattr(caught.exception, name), value, row)
        self.assertEqual(state_of(desk), before)

    def test_what_is_no_text(self):
        desk = usual()
        for thing in odd_things():
            if not isinstance(thing, str):
                self.check(desk, thing, NoRow)
                with self.assertRaises(NoRow):
                    Desk().say(thing)
        for thing in (b"names", ["names"], ("names",), {"names": "names"}):
            self.check(desk, thing, NoRow)

    def test_first_words_that_are_none(self):
        desk = usual()
        for row in ("", " ", "  ", "k", "Names", "name", "NAMES", " names", "names\n", "\tnames", "say names",
                    "show\tbell", "showbell", "help", "read bell", "renamed bell 1 0", "keepers bell", "pieces bell",
                    "value bell", "count k k", "group k", "join_legs a legged x y", "tree_count bell", "bell",
                    " show bell", "-", "ok", "/", "sort a a", "corner k"):
            self.check(desk, row, NoRow)

    def test_fewer_words(self):
        desk = usual()
        for row in ("stock", "draw", "draw it", "least", "least it", "beside", "beside it", "beside it bell", "cut",
                    "cut it", "cut it bell", "cut it bell 0", "cut it bell 0 a", "cut it bell 0 a 1",
                    "cut it bell 0 a 1 a", "cut it bell 0 a 1 a p", "sew", "sew it", "sew it legged",
                    "sew it legged x", "show", "turns", "trees", "rings", "parts", "cuts", "alike", "alike bell",
                    "whole", "free", "all", "sums"):
            self.check(desk, row, NoRow)

    def test_more_words(self):
        desk = usual()
        for row in ("names bell", "names ", "names  ", "least it bell bell", "least it bell ", "least it  bell",
                    "beside it bell legged bell", "cut it bell 0 a 1 a p q r", "cut it bell 0 a 1 a p q ",
                    "sew it legged x y z", "show bell bell", "show bell ", "show  bell", "turns bell bell",
                    "trees bell bell", "rings bell bell", "parts bell bell", "cuts bell bell",
                    "alike bell bell bell", "whole bell bell", "free bell bell"):
            self.check(desk, row, NoRow)

    def test_names_that_are_none(self):
        desk = usual()
        for name in ("", "A", "Bell", "a1", "1", "abcdefghi", "a-b", "-", "a.", "\t", "a\n", "/"):
            for row in (f"draw {name} ", f"draw {name} {BELL}", f"least {name} bell", f"beside {name} bell legged",
                        f"cut {name} bell 0 a 1 a p q", f"sew {name} legged x y"):
                self.check(desk, row, NoRow)

    def test_numbers_that_are_none(self):
        desk = usual()
        for number in ("", "00", "01", "-1", "+1", "1000000", "0000000", "1.0", "a", "one", "1_0", "0x1", "1\n", "-",
                       "\u0661", "\u00b2", "\uff11", "\t1"):
            for row in (f"cut it bell {number} a 1 a p q", f"cut it bell 0 a {number} a p q", f"sums {number}",
                        f"sums {number} 1", f"sums 1 {number}", f"sums 1 1 1 1 1 1 1 {number}"):
                self.check(desk, row, NoRow)
        for number in ("2", "9", "10", "999999", "100000"):
            self.check(desk, f"cut it bell {number} a {number} a p q", NoJoin)
            self.check(desk, f"sums {number} {number}", NoCounts)

    def test_other_words_may_be_any(self):
        desk = usual()
        for word in ("", "A", "abcdefghi", "a1", "01", "-", "/", "\t"):
            self.check(desk, f"show {word}", NotThere, word)
            self.check(desk, f"least it {word}", NotThere, word)
            self.check(desk, f"cut it bell 0 {word} 1 a p q", NoJoin)
            self.check(desk, f"cut it bell 0 a 1 {word} p q", NoJoin)
            self.check(desk, f"cut it bell 0 a 1 a {word} q", NoName)
            self.check(desk, f"cut it bell 0 a 1 a p {word}", NoName)
            self.check(desk, f"sew it legged {word} y", NoLeg)
            self.check(desk, f"sew it legged x {word}", NoLeg)
            self.check(desk, f"all {word}", NoDrawing, "corners")
            self.check(desk, f"all k {word}", NoDrawing, "corners")

    def test_without_a_stock(self):
        desk = Desk()
        for row in ("names", "show bell", "turns bell", "trees bell", "rings bell", "parts bell", "cuts bell",
                    "alike bell thrice", "whole bell", "free bell", "all k", "sums 1", "least it bell", "draw it ",
                    "draw it " + BELL, "draw it x", "beside it bell thrice", "cut it bell 0 a 1 a p q",
                    "sew it bell p q", "show ", "all ", "sums 7"):
            with self.assertRaises(NotThere) as caught:
                desk.say(row)
            self.assertEqual(caught.exception.name, "stock", row)
        for row in ("", "show", "names x", "draw It x", "sums x", "cut it bell 0 a x a p q", "draw it", "stock"):
            with self.assertRaises(NoRow):
                desk.say(row)
        for row in ("stock ", "stock x", "stock  " + STOCK):
            with self.assertRaises(NoText):
                desk.say(row)
        with self.assertRaises(NotThere):
            desk.say("names")

    def test_drawings_that_are_not_there_from_the_left(self):
        desk = usual()
        for word in ASKING:
            self.check(desk, f"{word} other", NotThere, "other")
            self.check(desk, f"{word} stock", NotThere, "stock")
        self.check(desk, "alike other bell", NotThere, "other")
        self.check(desk, "alike bell other", NotThere, "other")
        self.check(desk, "alike one other", NotThere, "one")
        self.check(desk, "beside it one other", NotThere, "one")
        self.check(desk, "beside it bell other", NotThere, "other")
        self.check(desk, "beside it other bell", NotThere, "other")
        self.check(desk, "least it it", NotThere, "it")
        self.check(desk, "cut it other 0 a 1 a p q", NotThere, "other")
        self.check(desk, "cut it other 9 b 9 b P P", NotThere, "other")
        self.check(desk, "sew it other x y", NotThere, "other")
        self.check(desk, "sew it other x x", NotThere, "other")

    def test_as_the_stages_tell(self):
        desk = usual()
        self.check(desk, "stock ", NoText, 0)
        self.check(desk, "stock " + STOCK + " ", NoText, 1)
        self.check(desk, "stock " + STOCK + " / sort b b", NoText, 2)
        self.check(desk, "stock kind k a", NoStock, "sorts")
        self.check(desk, "stock sort a a / kind k b", NoStock, "kinds")
        self.check(desk, "draw bell x", NoText, 0)
        self.check(desk, "draw bell  ", NoText, 0)
        self.check(desk, "draw bell " + BELL + " / corner k", NoText, 5)
        self.check(desk, "draw bell corner other", NoDrawing, "corners")
        self.check(desk, "draw bell leg x b", NoDrawing, "legs")
        self.check(desk, "draw bell corner k", NoDrawing, "joins")
        self.check(desk, "beside it legged legged", NoMatch)
        self.check(desk, "cut it bell 1 a 0 a p q", NoJoin)
        self.check(desk, "cut it legged 0 a 1 a p q", NoJoin)
        self.check(desk, "cut it bell 0 a 1 a p p", NoName)
        self.check(desk, "cut it bell 1 a 0 a p p", NoJoin)
        self.check(desk, "sew it legged x x", NoLeg)
        self.check(desk, "sew it legged x other", NoLeg)
        self.check(desk, "all k other", NoDrawing, "corners")
        self.check(desk, "all k k k k k k k", NoDrawing, "corners")
        self.check(desk, "all k k k k k", TooMany)
        self.check(desk, "sums 7", NoCounts)
        self.check(desk, "sums 1 1", NoCounts)

    def test_too_many_corners_and_legs(self):
        desk = usual()
        desk.say("beside two bell thrice")
        desk.say("beside three two bell")
        self.check(desk, "beside it three bell", TooMany)
        self.check(desk, "beside three three bell", TooMany)
        desk.say("beside two legged bell")
        desk.say("cut one two 1 a 2 a p q")
        self.check(desk, "cut it one 1 a 1 a r s", TooMany)
        self.check(desk, "cut it one 1 a 1 a p s", NoName)
        self.check(desk, "cut it one 0 a 1 a p s", NoJoin)

    def test_legs_that_are_joined(self):
        desk = desk_with(STOCK, legs="leg p a / leg q a / join 0 a 1 a")
        self.check(desk, "sew it legs p q", NoJoin)
        self.check(desk, "sew it legs p p", NoLeg)
        stock = Stock([("a", "b"), ("b", "a")], [("k", ("a", "a"))])
        desk = desk_with(stock, it="corner k / leg p b / leg q b / join 0 a 1 b / join 0 a 2 b")
        self.check(desk, "sew other it p q", NoJoin)

    def test_the_row_comes_ahead_of_the_stock_and_the_drawings(self):
        desk = usual()
        self.check(desk, "least It other", NoRow)
        self.check(desk, "cut it other 0 a 01 a p q", NoRow)
        self.check(desk, "alike other", NoRow)
        with self.assertRaises(NoRow):
            Desk().say("cut it bell 0 a 01 a p q")

    def test_a_refused_stock_keeps_stock_and_drawings(self):
        desk = usual()
        for row in ("stock ", "stock sort b b / kind k b b / x", "stock sort b b / kind k a"):
            with self.assertRaises(EndError):
                desk.say(row)
        self.assertEqual(desk.say("all k k"), "2 5/24")
        self.assertEqual(desk.say("show bell"), BELL)
        desk = Desk()
        with self.assertRaises(NoStock):
            desk.say("stock sort a a")
        with self.assertRaises(NotThere):
            desk.say("names")

    def test_a_refused_drawing_keeps_the_one_called_so(self):
        desk = usual()
        for row in ("draw bell x", "draw bell corner k", "least bell other", "beside bell bell other",
                    "cut bell bell 0 a 1 a p p", "sew bell legged x x"):
            with self.assertRaises(EndError):
                desk.say(row)
            self.assertEqual(desk.say("show bell"), BELL)

    def test_refusals_are_those_of_the_errors_module(self):
        for name in ("NoRow", "NotThere", "NoText"):
            self.assertEqual(getattr(errors, name).__bases__, (errors.EndError,))


if __name__ == "__main__":
    unittest.main()
