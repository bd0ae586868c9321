import unittest

from pyhold.frames import FIELDS

TOLD = (
    'neg "", not "", bin1 "xta", bin2 "xv", and "ta", or "ta", choice "tta", cmp1 "ta", cmp2 "vxta", '
    'cmp3 "vta", attr "x", item1 "ta", item2 "v", part1 "tta", part2 "vta", part3 "vv", items "xVta", '
    'dict1 "Wtta", dict2 "Wvta", call1 "tta", args "vVtXta", rest "ta", drop "", put "ta", del1 "ta", '
    'del2 "v", ret "", throw "", if "tta", while1 "ttan", while2 "ttan", for1 "ttan", for2 "ttan", '
    'for3 "vttan", for4 "vttan", for5 "vttan", def "xtttXta", class1 "xtta", class2 "xbaa", catch "ta", '
    'match "vta", handling "v", final "ta", after "s", giving "ta", sent "ta", setattr "xv", '
    'seti1 "tva", seti2 "vv", unpack "tVa", forget ""')

OF_CALLS = (
    'body "xn", init "v", genbody "axnx", begin "ta", want "x", print "vV", gather1 "x", '
    'gather "xvV", default "v"')


class Fields(unittest.TestCase):
    def test_all_in_their_order(self):
        rows = [row.split(" ") for row in (TOLD + ", " + OF_CALLS).split(", ")]
        self.assertEqual(list(FIELDS.items()), [(kind, letters.strip('"')) for kind, letters in rows])
        self.assertEqual(len(FIELDS), 60)

    def test_it_is_a_dict_of_strings(self):
        self.assertIs(type(FIELDS), dict)
        for kind, letters in FIELDS.items():
            self.assertIs(type(kind), str)
            self.assertLessEqual(set(letters), set("vVWXtabnxsF"), kind)

    def test_the_frames_of_calls_come_last(self):
        kinds = [row.split(" ")[0] for row in OF_CALLS.split(", ")]
        self.assertEqual(list(FIELDS)[-9:], kinds)


if __name__ == "__main__":
    unittest.main()
