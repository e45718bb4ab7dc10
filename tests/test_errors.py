import unittest

from larderdays import errors

WITH_FIELD = [
    (errors.LineError, "line"),
    (errors.Short, "good"),
    (errors.PowerCut, "written"),
    (errors.NoSuchBatch, "number"),
]
WITHOUT_FIELD = [errors.BadChoice, errors.ShutError]


class ErrorsTest(unittest.TestCase):
    def test_the_base_is_a_value_error(self):
        self.assertTrue(issubclass(errors.LarderdaysError, ValueError))

    def test_each_error_is_one_of_the_package(self):
        for kind in [kind for kind, _ in WITH_FIELD] + WITHOUT_FIELD:
            self.assertTrue(issubclass(kind, errors.LarderdaysError), kind)

    def test_none_is_an_instance_of_another_one(self):
        kinds = [kind for kind, _ in WITH_FIELD] + WITHOUT_FIELD
        for one in kinds:
            for other in kinds:
                self.assertEqual(issubclass(one, other), one is other, (one, other))

    def test_fields(self):
        for kind, field in WITH_FIELD:
            self.assertEqual(getattr(kind(3), field), 3)
            self.assertEqual(getattr(kind(**{field: 0}), field), 0)

    def test_errors_without_fields_take_nothing(self):
        for kind in WITHOUT_FIELD:
            self.assertIsInstance(kind(), kind)

    def test_each_is_defined_in_this_file(self):
        for kind in [kind for kind, _ in WITH_FIELD] + WITHOUT_FIELD:
            self.assertEqual(kind.__module__, "larderdays.errors")


if __name__ == "__main__":
    unittest.main()
