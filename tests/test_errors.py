"""[12]: the errors, their families and their fields."""

from chooseonce import errors
from tests.helping import Case

FAMILIES = {
    "TextError": (("BadText", ("line", "at")),),
    "LookError": (
        ("TwiceNamed", ("name",)), ("BadSign", ("word",)), ("NoName", ("name",)),
        ("BadMaker", ("maker",)), ("BadRef", ("maker",)), ("Missing", ("judge", "maker")),
        ("BadAsk", ("name",)), ("Ring", ("lots",)),
    ),
    "RunError": (
        ("BadRows", ("row",)), ("Refused", ("maker", "place", "fault")), ("TooLong", ("price",)),
        ("BadPlan", ("lot",)), ("BadOrder", ("number", "why")), ("BadCode", ("number", "why")),
    ),
    "TreeError": (
        ("BadCandidate", ("path", "why")), ("BadNumber", ("number",)),
        ("BadPlace", ("row", "at")),
    ),
}


class Errors(Case):
    def test_base(self):
        self.assertEqual(errors.ChooseError.__bases__, (ValueError,))

    def test_families(self):
        for family in FAMILIES:
            self.assertEqual(getattr(errors, family).__bases__, (errors.ChooseError,))

    def test_each_is_derived_directly_from_its_family(self):
        for family, members in FAMILIES.items():
            for name, fields in members:
                self.assertEqual(getattr(errors, name).__bases__, (getattr(errors, family),))

    def test_fields_by_position_and_by_name_are_kept_as_they_are(self):
        for members in FAMILIES.values():
            for name, fields in members:
                values = [object() for _ in fields]
                made = getattr(errors, name)
                for error in (made(*values), made(**dict(zip(fields, values)))):
                    self.assertEqual(tuple(vars(error)), fields)
                    for field, value in zip(fields, values):
                        self.assertIs(getattr(error, field), value)

    def test_just_their_fields_are_taken(self):
        for members in FAMILIES.values():
            for name, fields in members:
                made = getattr(errors, name)
                with self.assertRaises(TypeError):
                    made(*range(len(fields) - 1))
                with self.assertRaises(TypeError):
                    made(*range(len(fields) + 1))

    def test_nothing_else_is_an_error(self):
        told = {name for members in FAMILIES.values() for name, _ in members}
        found = {name for name, value in vars(errors).items() if isinstance(value, type)}
        self.assertEqual(found, told | set(FAMILIES) | {"ChooseError"})
