import unittest

import samples
from rowlay import tables


class Sets(unittest.TestCase):
    def test_numbers_of_sets(self):
        for places in range(9):
            self.assertEqual(tables.set_count(places), 2 ** places)
        for number in range(256):
            places = samples.places_of(number)
            self.assertEqual(tables.set_of(tuple(places)), number)
            self.assertEqual(tables.set_of(tuple(places + places)), number)
            self.assertEqual([place for place in range(9) if tables.holds(number, place)], places)

    def test_sets_with_a_place_fewer(self):
        self.assertEqual(tables.place_fewer(0), [])
        self.assertEqual(tables.place_fewer(0b1011), [0b1010, 0b1001, 0b0011])
        self.assertEqual(tables.least_before([9, 4, 3, 8], 3), 3)


class OfAWeb(unittest.TestCase):
    def test_what_leads_out_of_each_set(self):
        for web in samples.webs():
            expected = [samples.plain_out(web, samples.places_of(number)) for number in range(2 ** web[0])]
            self.assertEqual(tables.leading_out(web), expected)

    def test_what_each_place_is_tied_to(self):
        for web in samples.webs():
            for place, tied in enumerate(tables.neighbours(web)):
                others = [tie[0] + tie[1] - place for tie in web[1] if place in tie[:2]]
                self.assertEqual(samples.places_of(tied), sorted(others))
            self.assertEqual(len(tables.neighbours(web)), web[0])


if __name__ == "__main__":
    unittest.main()
