"""[41]: fields and records."""

import unittest

from editlots.errors import BadFields, BadRecord
from editlots.records import made_fields, made_record

from bends import bends
from helpers import Case, ODD
from judging import fields_fit, kind_fits

K = ((4,), ((0,), (1,), (3,)))
ONE = ((), ((),))
PAIRS = ((2, 2), ((0, 0), (0, 1), (1, 0), (1, 1)))


class TestFields(Case):

    def test_right_ones(self):
        for fields in ((K,), (ONE,), (K, K), (K, ONE, PAIRS), (PAIRS,) * 6):
            self.assertIs(made_fields(fields), fields)

    def test_shape(self):
        wrong = [thing for thing in ODD if type(thing) is not tuple or not 1 <= len(thing) <= 6]
        for thing in wrong + [(K,) * 7, (None,) * 7, "K"]:
            self.refuses(BadFields, -1, made_fields, thing)
            self.refuses(BadFields, -1, made_record, thing, None)

    def test_no_kinds(self):
        for at in range(6):
            for thing in ODD + (((1,), ((0,),)), ((2,), ((2,),)), ((2,), ((0,), (0,)))):
                fields = (K,) * at + (thing,) + (None,) * (5 - at)
                self.refuses(BadFields, at, made_fields, fields)
                self.refuses(BadFields, at, made_record, fields, None)
        # One kind alone is no fields.
        self.refuses(BadFields, 0, made_fields, K)

    def test_bent_ones(self):
        for bent in bends((K, ONE)):
            if fields_fit(bent):
                self.assertIs(made_fields(bent), bent)
                continue
            told = -1
            if type(bent) is tuple and 1 <= len(bent) <= 6:
                told = [kind_fits(kind) for kind in bent].index(False)
            self.refuses(BadFields, told, made_fields, bent)

    def test_by_name(self):
        self.assertEqual(made_fields(thing=(K,)), (K,))
        self.assertEqual(made_record(thing=(2,), fields=(K,)), (2,))


class TestRecords(Case):

    def test_right_ones(self):
        for fields, record in (((K,), (0,)), ((K,), (2,)), ((K, ONE, PAIRS), (1, 0, 3)), ((K,) * 6, (2, 1, 0, 0, 1, 2))):
            self.assertIs(made_record(fields, record), record)

    def test_shape(self):
        for fields in ((K,), (K, ONE), (K,) * 6):
            wrong = [thing for thing in ODD if type(thing) is not tuple or len(thing) != len(fields)]
            for thing in wrong + [(0,) * 7, (None,) * 7, (0,) * (len(fields) + 1), (0,) * (len(fields) - 1)]:
                self.refuses(BadRecord, -1, made_record, fields, thing)

    def test_no_states(self):
        fields = (K, ONE, PAIRS)
        for at, many in enumerate((3, 1, 4)):
            for wrong in [many, -1, 10 ** 999] + [thing for thing in ODD if type(thing) is not int]:
                record = (0,) * at + (wrong,) + (None,) * (2 - at)
                self.refuses(BadRecord, at, made_record, fields, record)
                self.refuses(BadRecord, at, made_record, fields, record[:at + 1] + (0,) * (2 - at))

    def test_bent_ones(self):
        fields = (K, PAIRS)
        for bent in bends((1, 0)):
            if type(bent) is not tuple or len(bent) != 2:
                self.refuses(BadRecord, -1, made_record, fields, bent)
                continue
            wrong = [type(state) is not int or not 0 <= state < many for state, many in zip(bent, (3, 4))]
            if any(wrong):
                self.refuses(BadRecord, wrong.index(True), made_record, fields, bent)
            else:
                self.assertIs(made_record(fields, bent), bent)


if __name__ == "__main__":
    unittest.main()
