"""The document's own examples, as written."""

import doctest
import unittest

FORMS = """
>>> from echofields.forms import field_ring, fillings, form_error, loud_links, wish
>>> T = ((2, 2), ((0, 1, (1, 0), 0), (1, 0, (0, 1), 0)))
>>> S = ((2, 3), ((0, 1, (None, 2), 1),))
>>> [form_error(T), form_error(((2, 2), ((0, 1, (1, 2), 0),))), fillings(S)]
[None, (0, 'table'), ((0, 0), (0, 1), (0, 2), (1, 0), (1, 1), (1, 2))]
>>> [wish(S, (0, 1), 0), loud_links(S, (1, 1)), loud_links(T, (0, 0)), field_ring(T), field_ring(S)]
[None, (0,), (0,), ('ring', (0, 1)), ('ranks', (0, 1))]
"""


class ExamplesTest(unittest.TestCase):
    def check(self, text, many):
        case = doctest.DocTestParser().get_doctest(text, {}, "example", None, 0)
        report = []
        result = doctest.DocTestRunner(verbose=False).run(case, out=report.append)
        self.assertEqual(result.failed, 0, "".join(report))
        self.assertEqual(result.attempted, many)

    def test_forms(self):
        self.check(FORMS, 5)


if __name__ == "__main__":
    unittest.main()
