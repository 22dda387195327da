import unittest

from poolhopes.errors import InvalidEvent, InvalidText, PoolhopesError, Refused, TooMany


class ErrorsTest(unittest.TestCase):
    def test_base(self):
        self.assertEqual(PoolhopesError.__bases__, (ValueError,))

    def test_each_is_a_direct_subclass(self):
        for error in (InvalidEvent, Refused, TooMany, InvalidText):
            self.assertEqual(error.__bases__, (PoolhopesError,))

    def test_attributes(self):
        for argument in (("result", 0, 1), None, (), 300, [1, {2: "x"}], "text", True, 10 ** 3999):
            self.assertEqual(InvalidEvent(argument).event, argument)
            self.assertEqual(Refused(argument).ending, argument)
            self.assertEqual(TooMany(argument).limit, argument)
        self.assertIs(InvalidEvent(True).event, True)

    def test_caught_as_what_they_are(self):
        with self.assertRaises(InvalidEvent) as caught:
            raise InvalidEvent(("claim", 7))
        self.assertEqual(caught.exception.event, ("claim", 7))
        with self.assertRaises(Refused) as caught:
            raise Refused((0, 1, 0))
        self.assertEqual(caught.exception.ending, (0, 1, 0))
        with self.assertRaises(TooMany) as caught:
            raise TooMany(2000)
        self.assertEqual(caught.exception.limit, 2000)
        for error in (InvalidText("no sheet"), TooMany(8), Refused((0,)), InvalidEvent(())):
            with self.assertRaises(PoolhopesError):
                raise error
            with self.assertRaises(ValueError):
                raise error


if __name__ == "__main__":
    unittest.main()
