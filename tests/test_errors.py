import unittest

from jarcards.errors import Jam, JarError, NoName, NoProgram


class Errors(unittest.TestCase):
    def test_any_refusal_is_a_value_error(self):
        self.assertTrue(issubclass(JarError, ValueError))

    def test_each_refusal_is_a_jar_error(self):
        for refusal in (NoName, NoProgram, Jam):
            with self.subTest(refusal=refusal.__name__):
                self.assertEqual(refusal.__bases__, (JarError,))
                with self.assertRaises(JarError):
                    raise refusal("words")

    def test_no_refusal_is_taken_as_another(self):
        refusals = (NoName, NoProgram, Jam)
        for one in refusals:
            for other in refusals:
                if one != other:
                    self.assertFalse(issubclass(one, other))


if __name__ == "__main__":
    unittest.main()
