import unittest

from kindleweb.errors import NoText
from kindleweb.notes import read_web, web_text
from kindleweb.webs import made_web
from tests.samples import knot_web, ring_web, row_web, small_webs


class Written(unittest.TestCase):
    def test_no_hearths(self):
        self.assertEqual(web_text(((), ())), ".\n.")

    def test_no_links(self):
        self.assertEqual(web_text(((0, 60, 10), ())), "0 60 10\n.")

    def test_links(self):
        self.assertEqual(web_text(made_web([1, 2, 0], [(2, 0), (1, 0)])), "1 2 0\n0-1 0-2")
        self.assertEqual(web_text(((7, 7), ((0, 1),))), "7 7\n0-1")

    def test_two_figures(self):
        self.assertTrue(web_text(row_web(40, 10)).endswith("\n" + " ".join(f"{k}-{k + 1}" for k in range(39))))

    def test_what_is_written_is_read_back(self):
        for web in small_webs() + [knot_web(40, 60), row_web(40, 0), ring_web(40, 9), ((), ()), ((60,), ())]:
            text = web_text(web)
            self.assertEqual(read_web(text), web)
            self.assertEqual(web_text(read_web(text)), text)


class Read(unittest.TestCase):
    def refused(self, *texts):
        for text in texts:
            with self.assertRaises(NoText, msg=repr(text)):
                read_web(text)

    def test_rightly_written(self):
        self.assertEqual(read_web(".\n."), ((), ()))
        self.assertEqual(read_web("0\n."), ((0,), ()))
        self.assertEqual(read_web("60 0 9 10\n0-1 0-3 1-2"), ((60, 0, 9, 10), ((0, 1), (0, 3), (1, 2))))
        self.assertEqual(read_web(" ".join(["1"] * 40) + "\n0-39 9-10 38-39")[1], ((0, 39), (9, 10), (38, 39)))

    def test_told_as_tuples(self):
        wants, links = read_web("1 1\n0-1")
        self.assertEqual([type(part) for part in (wants, links, links[0])], [tuple] * 3)

    def test_other_signs(self):
        self.refused("a\n.", "1 x\n.", "1,1\n.", "1 1\n0+1", "1 1\n0~1", "1\t1\n.", "+1\n.", "-1\n.", "1_0\n.", "1.\n.",
                     "..\n.", ".\n..", "1 .\n.", ". 1\n.", "1 1\n0-1 .", "1 1\n. 0-1", "1 1\n0-1,", "1 1\n0:1", "1\n!")

    def test_other_counts_of_rows(self):
        self.refused("", ".", "1 1", "\n", "\n\n", ".\n.\n", "\n.\n.", ".\n.\n.", "1 1\n0-1\n", "1 1\n\n0-1", "1 1 0-1")

    def test_empty_rows(self):
        self.refused("\n.", ".\n", "1 1\n", "\n0-1")

    def test_blanks(self):
        self.refused("1  1\n.", " 1 1\n.", "1 1 \n.", "1 1\n 0-1", "1 1\n0-1 ", "1 1 1\n0-1  0-2", " \n.", ".\n ",
                     " .\n.", ". \n.", ".\n .", ".\n. ", "1 1\n0 -1", "1 1\n0- 1")

    def test_numbers_not_written_so(self):
        self.refused("00\n.", "01\n.", "1 007\n.", "1 1\n00-1", "1 1\n0-01", "1 1\n0x0-1", "1e1\n.", "1 -0\n.")

    def test_wants_too_great(self):
        self.refused("61\n.", "1 100\n.", "1" * 60 + "\n.", "9" * 5997 + "\n.", "0" * 5997 + "\n.")

    def test_too_many_hearths(self):
        self.refused(" ".join(["0"] * 41) + "\n.", " ".join(["0"] * 1000) + "\n.")

    def test_links_not_written_so(self):
        self.refused("1 1\n0", "1 1\n-", "1 1\n0-", "1 1\n-1", "1 1\n0--1", "1 1\n0-1-1", "1 1\n-0-1", "1 1\n01")

    def test_lesser_hearth_not_first(self):
        self.refused("1 1\n1-0", "1 1\n0-0", "1 1 1\n0-1 2-1")

    def test_no_such_hearth(self):
        self.refused(".\n0-1", "1\n0-1", "1 1\n0-2", "1 1\n2-3", "1 1\n0-" + "9" * 5900, "1 1\n" + "9" * 5900 + "-1")

    def test_links_that_do_not_rise(self):
        self.refused("1 1 1\n0-2 0-1", "1 1 1\n1-2 0-1", "1 1 1\n0-1 0-1", "1 1 1\n0-1 1-2 0-2")
        many = " ".join(["1"] * 12)
        self.assertEqual(read_web(many + "\n0-9 0-10")[1], ((0, 9), (0, 10)))
        self.refused(many + "\n0-10 0-9")


if __name__ == "__main__":
    unittest.main()
