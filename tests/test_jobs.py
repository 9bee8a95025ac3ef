"""Point 907, and the heading swarmwhole/jobs.py of the interface."""

import unittest

from swarmwhole.cases import case_text
from swarmwhole.jobs import job
from swarmwhole.reports import report, report_text
from swarmwhole.values import decode, dict_of, encode
from tests.casework import case
from tests.helpers import ANY_VALUES, Unchanged, octets
from tests.samples import SHA, files_of

ERRORS = {reason: octets("{o5:erroro" + f"{len(reason)}:{reason}" + "}")
          for reason in ("text", "content", "world", "schedule", "quiet")}


class Jobs(unittest.TestCase):
    def error(self, reason, *given):
        for value in given:
            with self.subTest(value), Unchanged(self, value):
                self.assertEqual(job(value), ERRORS[reason])

    def test_907_the_text_of_a_case(self):
        for given in (case(), case(schedule=(), quiet=40), case(kind=SHA, schedule=(), quiet=2),
                      case(schedule=((("join", 2, 3), ("forge", 3, 2, (0,) * 4), ("flow", 3, 2, None),
                                      ("fall", 1, ())),), quiet=0),
                      case(files=files_of(3), world=((), (), ())), case(kind=("sum", 1), quiet=20)):
            text = case_text(given)
            with Unchanged(self, text):
                found = job(text)
            self.assertEqual(found, report_text(report(given)))
            self.assertEqual(job(text), found)

    def test_907_a_job_written_out(self):
        text = ("{o5:files[[[o1:a]o3:abc]]o4:kind[o3:sumn1;]o4:nameo1:no5:quietn2;o8:schedule[]o4:sizen4;"
                "o5:world[[[n5;[n0;]]][][]]}")
        found = "".join(map(chr, job(octets(text))))
        top = "".join(map(chr, report(case(name=octets("n"), kind=("sum", 1), files=(((octets("a"),), octets("abc")),),
                                           world=(((5, (0,)),), (), ()), schedule=(), quiet=2))[0]))
        self.assertEqual(found, "{o10:collisionsn0;o6:faults[]o5:files[[n5;[o3:abc]]]o7:forgers[]o3:had[[n5;[n0;]]]"
                                "o8:identityo1:" + top + "o7:lackingn0;o5:ticksn2;}")

    def test_907_what_is_not_octets(self):
        text = case_text(case())
        self.error("text", *ANY_VALUES, list(text), "".join(map(chr, text)), case(), text[:-1] + (256,))

    def test_907_octets_that_are_no_text(self):
        text = case_text(case())
        self.error("text", (), text[:-1], text + (0,), octets("{"), octets("n01;"), octets("case"), (0, 255))

    def test_907_texts_of_values_that_are_no_case(self):
        self.error("text", octets("n1;"), octets("[]"), octets("{}"), octets("o2:ab"),
                   encode(("list", (decode(case_text(case())),))), ERRORS["text"], report_text(report(case())))

    def test_907_texts_with_the_form_of_a_case_that_are_none(self):
        pairs = decode(case_text(case()))[1]
        for key, item, reason in (("name", ("octets", ()), "content"), ("size", ("int", 3), "content"),
                                  ("world", ("list", (("list", ()), ("list", (("int", -1),)), ("list", ()))), "world"),
                                  ("schedule", ("list", (("list", (("list", (("octets", ()),)),)),)), "schedule"),
                                  ("quiet", ("int", 1001), "quiet")):
            wrong = [(held, item if held == octets(key) else value) for held, value in pairs]
            self.error(reason, encode(dict_of(wrong)))


if __name__ == "__main__":
    unittest.main()
