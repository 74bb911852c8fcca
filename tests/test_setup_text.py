"""Point 3: the text of set-ups and its reading."""

import unittest

from callbells.errors import InvalidSetup, NotationError
from callbells.setups import Setup

from helpers import Case, DISK, edge, letters, level, usual

LINE = "line net edge 5 run 3"
STEPS = (("run", 99), ("ring", "b"), ("quiet", "b"), ("mask", "a"), ("unmask", "b"), ("set", 0), ("clear", 7), ("await", 5))


class TextTest(Case):
    def test_text(self):
        rows = ["line net edge 5 run 3 later flush", "line disk edge 7 run 2", "line heat level 2 run 1 quiet heat", "work flush 2 4"]
        self.same(usual().text, "\n".join(rows))
        self.same(Setup((DISK,)).text, "line disk edge 7 run 2")
        self.same(Setup((DISK,), (("b", 9, 99), ("a", 1, 1))).text, "line disk edge 7 run 2\nwork b 9 99\nwork a 1 1")

    def test_text_of_each_step(self):
        setup = Setup((edge("a", 9, *STEPS), level("b", 1, ("bar", 0), ("later", "a"))), (("a", 1, 1),))
        first = "line a edge 9 run 99 ring b quiet b mask a unmask b set 0 clear 7 await 5"
        self.same(setup.text, first + "\nline b level 1 bar 0 later a\nwork a 1 1")

    def test_it_is_a_property(self):
        self.assertIsInstance(Setup.__dict__["text"], property)


class ParseTest(Case):
    def test_there_and_back(self):
        many = tuple([edge(name, 1, ("run", 10)) for name in letters(12)])
        setups = (
            usual(),
            Setup((DISK,)),
            Setup((edge("a", 9, *STEPS), level("b", 1, ("bar", 0), ("later", "a"))), (("a", 1, 1),)),
            Setup(many, tuple([(name, 1, 50) for name in letters(8)])),
            Setup((edge("line", 1, ("later", "work")), edge("work", 1, ("ring", "run")), edge("run", 1, ("run", 1))), (("work", 1, 1), ("line", 2, 2))),
        )
        for setup in setups:
            with self.subTest(text=setup.text):
                again = Setup.parse(setup.text)
                self.assertIsInstance(again, Setup)
                self.same(again == setup, True)
                self.same((again.lines, again.works), (setup.lines, setup.works))
                self.same(again.text, setup.text)

    def test_values(self):
        setup = Setup.parse("line a level 3 set 0 quiet a\nline b edge 2 later a\nwork a 9 99")
        self.same(setup.lines, (level("a", 3, ("set", 0), ("quiet", "a")), edge("b", 2, ("later", "a"))))
        self.same(setup.works, (("a", 9, 99),))

    def test_of_an_object(self):
        self.same(usual().parse("line disk edge 7 run 2").lines, (DISK,))


class NotationTest(Case):
    def wrong(self, row, word, text):
        with self.subTest(text=text):
            self.raises(NotationError, Setup.parse, text, row=row, word=word)

    def wrong_row(self, word, row):
        """The row is wrong as the only one, behind others, and ahead of one that is worse."""
        self.wrong(0, word, row)
        self.wrong(1, word, LINE + "\n" + row)
        self.wrong(2, word, LINE + "\nline a level 0\n" + row + "\nmess")

    def wrong_work(self, word, row):
        self.wrong(1, word, LINE + "\n" + row)
        self.wrong(2, word, LINE + "\nwork a 1 1\n" + row)
        self.wrong(1, word, LINE + "\n" + row + "\nmess")

    def test_empty_text_and_rows(self):
        self.wrong(0, 0, "")
        self.wrong(0, 0, "\n")
        self.wrong(0, 0, "\n" + LINE)
        self.wrong(1, 0, LINE + "\n")
        self.wrong(1, 0, LINE + "\n\nwork a 1 1")
        self.wrong(2, 0, LINE + "\nwork a 1 1\n")

    def test_first_words(self):
        for word in ("Line", "lines", "works", "net", "1", "processors", "route", "#", "step"):
            self.wrong_row(0, word + " net edge 5 run 3")
            self.wrong_row(0, word)

    def test_missing_words_of_lines(self):
        self.wrong_row(1, "line")
        self.wrong_row(2, "line net")
        self.wrong_row(3, "line net edge")
        for word in ("run", "ring", "quiet", "mask", "unmask", "set", "clear", "await", "bar", "later"):
            self.wrong_row(5, "line net edge 5 " + word)
            self.wrong_row(9, "line net edge 5 run 3 ring a " + word)

    def test_missing_words_of_works(self):
        self.wrong_work(1, "work")
        self.wrong_work(2, "work a")
        self.wrong_work(3, "work a 1")

    def test_superfluous_words(self):
        self.wrong_work(4, "work a 1 1 1")
        self.wrong_work(4, "work a 1 1 run 3")
        self.wrong_work(4, "work a 1 1 1 1")
        self.wrong_row(6, LINE + " 4")
        self.wrong_row(6, LINE + " 4 5")
        self.wrong_row(6, LINE + " work a 1 1")
        self.wrong_row(4, "line net edge 5 5")

    def test_empty_words(self):
        self.wrong_row(0, " " + LINE)
        self.wrong_row(0, " ")
        self.wrong_row(1, "line  net edge 5 run 3")
        self.wrong_row(1, "line ")
        self.wrong_row(2, "line net  edge 5 run 3")
        self.wrong_row(2, "line net ")
        self.wrong_row(3, "line net edge  5 run 3")
        self.wrong_row(4, "line net edge 5  run 3")
        self.wrong_row(4, "line net edge 5 ")
        self.wrong_row(5, "line net edge 5 run  3")
        self.wrong_row(5, "line net edge 5 run ")
        self.wrong_row(5, "line net edge 5 ring ")
        self.wrong_row(6, LINE + " ")
        self.wrong_row(6, LINE + "  ring a")
        self.wrong_work(0, " work a 1 1")
        self.wrong_work(1, "work  a 1 1")
        self.wrong_work(2, "work a  1 1")
        self.wrong_work(3, "work a 1  1")
        self.wrong_work(3, "work a 1 ")
        self.wrong_work(4, "work a 1 1 ")

    def test_names(self):
        for name in ("Net", "net1", "1", "0", "n-t", "n_t", "net,", "\tnet", "net\t", "net\r", "n\u00e9t", "\u00df", "\u0430"):
            self.wrong_row(1, "line " + name + " edge 5 run 3")
            self.wrong_work(1, "work " + name + " 1 1")
            for word in ("ring", "quiet", "mask", "unmask", "later"):
                self.wrong_row(5, "line net edge 5 " + word + " " + name)

    def test_kinds(self):
        for kind in ("Edge", "edges", "line", "net", "5", "levels", "edge,"):
            self.wrong_row(2, "line net " + kind + " 5 run 3")

    def test_integers(self):
        wrong = ("00", "01", "007", "000", "1000", "0005", "12345", "+5", "-5", "-0", "5.0", "5,", "five", "net", "0x5", "1_0", "\t5")
        for number in wrong + ("\u00b2", "\u0665", "5\r"):
            self.wrong_row(3, "line net edge " + number + " run 3")
            self.wrong_work(2, "work a " + number + " 1")
            self.wrong_work(3, "work a 1 " + number)
            for word in ("run", "set", "clear", "await", "bar"):
                self.wrong_row(5, "line net edge 5 " + word + " " + number)

    def test_words_of_steps(self):
        for word in ("Run", "runs", "halt", "3", "line", "work", "edge", "begin", "net", "\tring"):
            self.wrong_row(4, "line net edge 5 " + word + " 3")
            self.wrong_row(6, LINE + " " + word + " 3")
            self.wrong_row(8, LINE + " set 1 " + word)

    def test_the_first_wrong_word(self):
        self.wrong_row(1, "line 1 edges 05 walk")
        self.wrong_row(2, "line net edges 05 walk")
        self.wrong_row(3, "line net edge 05 walk")
        self.wrong_row(4, "line net edge 5 walk")
        self.wrong_row(5, "line net edge 5 run three walk 5 run")
        self.wrong_work(1, "work 1 x y z")
        self.wrong_work(2, "work a x y z")
        self.wrong_work(3, "work a 1 y z")

    def test_the_first_wrong_row(self):
        self.wrong(1, 5, LINE + "\nline a edge 1 run x\nmess\nwork 1")
        self.wrong(0, 1, "line 1\n\n")

    def test_works_ahead_of_lines(self):
        self.wrong(0, 0, "work a 1 1")
        self.wrong(0, 0, "work a 1 1\n" + LINE)
        self.wrong(0, 0, "work")
        self.wrong(2, 0, LINE + "\nwork a 1 1\n" + LINE)
        self.wrong(2, 0, LINE + "\nwork a 1 1\nline b edge 1 run 1\nwork b 1 1")
        self.wrong(3, 0, LINE + "\nwork a 1 1\nwork b 1 1\nline 1")

    def test_other_breaks_of_rows_are_none(self):
        self.wrong(0, 5, LINE + "\r\nwork a 1 1")
        self.wrong(0, 5, LINE + "\x0bwork a 1 1")
        self.wrong(0, 0, "line\tnet edge 5 run 3")


class InvalidAfterwardsTest(Case):
    """Texts whose words have their form, but whose set-up is invalid."""

    def invalid(self, part, index, text):
        with self.subTest(text=text):
            self.raises(InvalidSetup, Setup.parse, text, part=part, index=index)

    def test_lines(self):
        self.invalid("lines", 0, "line net edge 5")
        self.invalid("lines", 1, LINE + "\nline a level 5")
        self.invalid("lines", 0, "line abcdefghi edge 5 run 3")
        self.invalid("lines", 0, "line net edge 0 run 3")
        self.invalid("lines", 0, "line net edge 10 run 3")
        self.invalid("lines", 0, "line net edge 999 run 3")
        self.invalid("lines", 1, LINE + "\n" + LINE)
        self.invalid("lines", 0, "line net edge 5" + " run 3" * 9)
        self.invalid("lines", 12, "\n".join(["line " + name + " edge 1 run 1" for name in letters(13)]))

    def test_works(self):
        self.invalid("works", 0, LINE + "\nwork abcdefghi 1 1")
        self.invalid("works", 0, LINE + "\nwork a 0 1")
        self.invalid("works", 0, LINE + "\nwork a 10 1")
        self.invalid("works", 1, LINE + "\nwork a 1 1\nwork b 1 0")
        self.invalid("works", 1, LINE + "\nwork a 1 1\nwork b 1 100")
        self.invalid("works", 1, LINE + "\nwork a 1 1\nwork a 2 2")
        self.invalid("works", 8, LINE + "\n" + "\n".join(["work " + name + " 1 1" for name in letters(9)]))

    def test_handlers(self):
        steps = ("run 0", "run 100", "run 999", "set 8", "clear 8", "await 999", "bar 10", "ring fan", "quiet net", "mask fan")
        for step in steps + ("unmask fan", "later net", "later abcdefghij", "quiet flush"):
            self.invalid("handlers", 0, "line net edge 5 " + step + "\nwork flush 2 4")
            self.invalid("handlers", 1, "line a edge 5 run 1\nline net edge 5 run 1 " + step)

    def test_in_the_order_of_parts(self):
        self.invalid("lines", 1, "line a edge 1 run 0\nline b edge 0 run 1\nwork a 0 0")
        self.invalid("works", 0, "line a edge 1 run 0\nwork a 0 0")

    def test_wrong_words_go_first(self):
        self.raises(NotationError, Setup.parse, "line net edge 10\nline net edge 5 run x", row=1, word=5)
        self.raises(NotationError, Setup.parse, LINE + "\nwork a 0 0\nwork a 0 0 0", row=2, word=4)

    def test_a_line_and_a_work_may_have_the_same_name(self):
        setup = Setup.parse("line net edge 5 later net ring net\nwork net 1 1")
        self.same(setup.lines, (edge("net", 5, ("later", "net"), ("ring", "net")),))
        self.same(setup.works, (("net", 1, 1),))


if __name__ == "__main__":
    unittest.main()
