import unittest

from hourlanes import errors
from hourlanes.errors import LaneError

PLAIN = ["NoJar", "NoTick", "NoLane"]
FIELDS = {
    "NoName": {"name": "A1"},
    "Taken": {"name": "a"},
    "Unknown": {"name": "b"},
    "NoWay": {"place": 3},
    "NoLot": {"place": 7},
    "TooMany": {"name": "c", "bound": 10 ** 40},
    "TooMuch": {"lane": "d", "first": 5, "end": 9, "rows": [("c", 5, 2, 1), ("e", 6, 1, 4)]},
    "NoText": {"row": 0},
    "NoBook": {"row": 11},
}


def named(name):
    return getattr(errors, name)


class ErrorsTest(unittest.TestCase):
    def test_all_stand_under_lane_error_and_value_error(self):
        self.assertTrue(issubclass(LaneError, ValueError))
        for name in [*PLAIN, *FIELDS]:
            self.assertTrue(issubclass(named(name), LaneError), name)

    def test_none_stands_under_another(self):
        names = [*PLAIN, *FIELDS]
        self.assertEqual(len(names), 12)
        for name in names:
            others = [other for other in names if other != name and issubclass(named(name), named(other))]
            self.assertEqual(others, [], name)

    def test_there_are_no_more_than_these(self):
        found = [each for each in vars(errors).values() if isinstance(each, type)]
        self.assertEqual(len(found), 13)

    def test_plain_ones_are_made_of_nothing(self):
        for name in PLAIN:
            with self.assertRaises(LaneError):
                raise named(name)()

    def test_fields_by_place(self):
        for name, fields in FIELDS.items():
            made = named(name)(*fields.values())
            self.assertEqual({field: getattr(made, field) for field in fields}, fields)

    def test_fields_by_name(self):
        for name, fields in FIELDS.items():
            made = named(name)(**fields)
            self.assertEqual({field: getattr(made, field) for field in fields}, fields)

    def test_each_is_caught_by_its_own_name_as_lane_error_and_as_value_error(self):
        for name, fields in FIELDS.items():
            for caught in [named(name), LaneError, ValueError]:
                with self.assertRaises(caught):
                    raise named(name)(**fields)

    def test_rows_do_not_hang_on_the_list_handed_in(self):
        rows = [("a", 0, 1, 2)]
        made = errors.TooMuch("d", 0, 1, rows)
        rows.append(("b", 0, 1, 2))
        self.assertEqual(made.rows, [("a", 0, 1, 2)])
        made.rows.clear()
        self.assertEqual(len(rows), 2)


if __name__ == "__main__":
    unittest.main()
