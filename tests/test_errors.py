"""The errors: point 4, and points 12 and 16 where they name errors."""

import unittest

from edgelink.errors import BadTrace, LinkError, Refused


class ErrorsTest(unittest.TestCase):
    def test_refused_has_what(self):
        error = Refused("edges out of order")
        self.assertEqual(error.what, "edges out of order")
        self.assertIsInstance(error.what, str)

    def test_bad_trace_has_line_and_what_in_this_order(self):
        error = BadTrace(3, "number is wrong")
        self.assertEqual((error.line, error.what), (3, "number is wrong"))

    def test_attributes_are_those_of_each_object(self):
        first, second = Refused("one"), Refused("two")
        self.assertEqual((first.what, second.what), ("one", "two"))
        first, second = BadTrace(1, "one"), BadTrace(2, "two")
        self.assertEqual([(first.line, first.what), (second.line, second.what)], [(1, "one"), (2, "two")])

    def test_base_classes(self):
        self.assertEqual(LinkError.__bases__, (ValueError,))
        self.assertEqual(Refused.__bases__, (LinkError,))
        self.assertEqual(BadTrace.__bases__, (LinkError,))

    def test_each_is_caught_as_link_error_and_as_value_error(self):
        for error in (LinkError("x"), Refused("x"), BadTrace(1, "x")):
            for caught in (LinkError, ValueError, type(error)):
                with self.assertRaises(caught) as context:
                    raise error
                self.assertIs(context.exception, error)

    def test_neither_is_caught_as_the_other(self):
        self.assertNotIsInstance(Refused("x"), BadTrace)
        self.assertNotIsInstance(BadTrace(1, "x"), Refused)

    def test_values_are_asked_for(self):
        for make in (lambda: Refused(), lambda: Refused(1, "x"), lambda: BadTrace(), lambda: BadTrace("x")):
            self.assertRaises(TypeError, make)

    def test_message_tells_what(self):
        self.assertIn("edges out of order", str(Refused("edges out of order")))
        self.assertIn("number is wrong", str(BadTrace(3, "number is wrong")))


if __name__ == "__main__":
    unittest.main()
