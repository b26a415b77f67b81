import unittest

from digitway import errors
from digitway.errors import BadText, BadValue, CantBe, NoPaper, NoRow, NotFinite, Untold

from tests.things import ANYTHING

CLASSES = (BadValue, BadText, NotFinite, NoRow, CantBe, Untold, NoPaper)

BASES = {
    BadValue: ValueError,
    BadText: BadValue,
    NotFinite: ArithmeticError,
    NoRow: IndexError,
    CantBe: RuntimeError,
    Untold: Exception,
    NoPaper: BadValue,
}

UNDER = {(BadText, BadValue), (NoPaper, BadValue)}

PYTHONS = (ValueError, ArithmeticError, LookupError, IndexError, KeyError, RuntimeError, TypeError)


class Standing(unittest.TestCase):
    def test_the_one_base_of_each(self):
        for kind, base in BASES.items():
            with self.subTest(kind.__name__):
                self.assertEqual(kind.__bases__, (base,))

    def test_no_other_one_stands_under_another(self):
        for kind in CLASSES:
            for other in CLASSES:
                with self.subTest(kind=kind.__name__, other=other.__name__):
                    self.assertEqual(issubclass(kind, other), kind == other or (kind, other) in UNDER)

    def test_under_no_other_error_of_python(self):
        for kind in CLASSES:
            above = {python for python in PYTHONS if issubclass(kind, python)}
            wanted = {python for python in PYTHONS if issubclass(BASES[kind], python)}
            self.assertEqual(above, wanted, kind.__name__)

    def test_they_are_all(self):
        found = {thing for thing in vars(errors).values() if isinstance(thing, type)}
        self.assertEqual(found, set(CLASSES))


class Fields(unittest.TestCase):
    def test_bad_value(self):
        for made in (BadValue("shape"), BadValue(what="shape")):
            self.assertEqual(made.what, "shape")

    def test_bad_text(self):
        for made in (BadText(1900), BadText(place=1900)):
            self.assertEqual(made.place, 1900)
            self.assertEqual(made.what, "text")

    def test_not_finite(self):
        for state in ("infinite", "nan"):
            for made in (NotFinite(state), NotFinite(state=state)):
                self.assertEqual(made.state, state)

    def test_no_row_keeps_the_very_thing(self):
        for name, thing in ANYTHING.items():
            with self.subTest(name):
                for made in (NoRow(thing), NoRow(row=thing)):
                    self.assertTrue(made.row is thing)
                    self.assertIsInstance(str(made), str)
                    self.assertIsInstance(repr(made), str)

    def test_cant_be(self):
        for made in (CantBe("back"), CantBe(about="back")):
            self.assertEqual(made.about, "back")

    def test_untold(self):
        for place in (0, 299, None):
            for made in (Untold(place), Untold(place=place)):
                self.assertEqual(made.place, place)

    def test_no_paper(self):
        self.assertEqual(NoPaper().what, "paper")

    def test_how_many_things_each_is_made_of(self):
        for kind in CLASSES:
            wanted = 0 if kind is NoPaper else 1
            for many in range(4):
                with self.subTest(kind=kind.__name__, many=many):
                    if many == wanted:
                        kind(*["nan"] * many)
                        continue
                    with self.assertRaises(TypeError):
                        kind(*["nan"] * many)

    def test_fields_stand_on_each_object_alone(self):
        one, other = BadText(1), BadText(2)
        self.assertEqual((one.place, other.place), (1, 2))
        self.assertEqual((BadValue("sign").what, BadValue("shape").what), ("sign", "shape"))

    def test_caught_by_their_bases(self):
        for made, base in (
            (BadText(3), ValueError),
            (NoPaper(), ValueError),
            (NotFinite("nan"), ArithmeticError),
            (NoRow(3), LookupError),
            (CantBe("back"), RuntimeError),
            (Untold(3), Exception),
        ):
            with self.assertRaises(base) as caught:
                raise made
            self.assertTrue(caught.exception is made)


if __name__ == "__main__":
    unittest.main()
