import unittest

import model
from widebuckets.buckets import bucket_begin, bucket_end, bucket_of


class Edges(unittest.TestCase):
    def test_fineness_three_doubles(self):
        self.assertEqual([bucket_end(3, i) for i in range(7)], [1, 2, 4, 8, 16, 32, 64])
        self.assertEqual([bucket_begin(3, i) for i in range(7)], [1, 2, 3, 5, 9, 17, 33])

    def test_fineness_ten(self):
        self.assertEqual([bucket_end(10, i) for i in range(12)], [1, 1, 1, 1, 2, 2, 3, 4, 4, 6, 7, 9])

    def test_bucket_without_a_whole_number_begins_above_its_end(self):
        for i in range(1, 14):
            self.assertEqual((bucket_begin(40, i), bucket_end(40, i)), (2, 1))
        self.assertEqual((bucket_begin(40, 14), bucket_end(40, 14)), (2, 2))

    def test_every_bucket_of_every_fineness(self):
        for k in range(3, 41):
            for i in range(0, 430, 7):
                self.assertEqual(bucket_end(k, i), model.end(k, i))
                self.assertEqual(bucket_begin(k, i), model.begin(k, i))

    def test_each_begins_one_above_the_one_before(self):
        for k in (3, 10, 40):
            self.assertEqual(bucket_begin(k, 0), 1)
            for i in range(1, 50):
                self.assertEqual(bucket_begin(k, i), bucket_end(k, i - 1) + 1)


class BucketOfValue(unittest.TestCase):
    def test_each_value_is_in_one_bucket(self):
        for k in range(3, 41):
            for value in list(range(1, 70)) + [10 ** 9 - 1, 10 ** 9]:
                number = bucket_of(k, value)
                self.assertEqual(number, model.bucket(k, value))
                self.assertLessEqual(bucket_begin(k, number), value)
                self.assertLessEqual(value, bucket_end(k, number))

    def test_beginning_and_end_of_each_bucket(self):
        for k in (3, 4, 10, 39, 40):
            for i in range(0, 60):
                if bucket_begin(k, i) <= bucket_end(k, i):
                    self.assertEqual(bucket_of(k, bucket_begin(k, i)), i)
                    self.assertEqual(bucket_of(k, bucket_end(k, i)), i)
