from ringstays.bodies import Bodies
from ringstays.errors import InvalidText
from ringstays.programs import Program, complete
from ringstays.texts import read_bodies, write_bodies
from tests import naive
from tests.cases import NO_LISTS, Case


class Texts(Case):
    def both(self, bodies, text):
        self.assertEqual(write_bodies(bodies), text)
        self.assertEqual(read_bodies(text), bodies)

    def test_examples(self):
        bodies = read_bodies("0: [1 0] 1; 1: 0")
        self.assertEqual([bodies.program.calls, bodies.inlined, write_bodies(bodies)],
                         [((1, 1), (0,)), (((0,),), ()), "0: [1 0] 1; 1: 0"])
        self.raises(InvalidText, {"given": "0: [1 1]; 1: 0"}, read_bodies, "0: [1 1]; 1: 0")

    def test_both_ways(self):
        self.both(Bodies(Program([[]])), "0:")
        self.both(Bodies(Program([[0]])), "0: 0")
        self.both(Bodies(Program([[], []])), "0:; 1:")
        self.both(Bodies(Program([[1], []]), [[(0,)], []]), "0: [1]; 1:")
        self.both(Bodies(Program([[1, 1], [1, 0]]), [[(0,), (0, 0), (0, 1)], [(1,)]]),
                  "0: [1 [1 1 0] [0 1 1]] 1; 1: 1 [0 1 1]")
        self.both(Bodies(complete(8)), "; ".join(f"{function}: 0 1 2 3 4 5 6 7" for function in range(8)))
        self.assertEqual(write_bodies(bodies=Bodies(Program([[]]))), "0:")
        self.assertEqual(read_bodies(text="0:"), Bodies(Program([[]])))

    def test_deep_brackets(self):
        self.both(Bodies(Program([[0]]), [naive.chain(2000)]), "0:" + " [0" * 2000 + " 0" + "]" * 2000)
        self.both(Bodies(Program([[0, 1], []]), [naive.chain(1999) + [(1,)], []]),
                  "0:" + " [0" * 1999 + " 0 1" + "] 1" * 1998 + "] [1]; 1:")
        self.both(Bodies(Program([[1], [0]]), [naive.chain(1000), naive.chain(1000)]),
                  "0:" + " [1 [0" * 500 + " 1" + "]" * 1000 + "; 1:" + " [0 [1" * 500 + " 0" + "]" * 1000)

    def test_too_deep_or_too_many(self):
        for text in ("0:" + " [0" * 2001 + " 0" + "]" * 2001,
                     "0:" + " [0" * 100000 + " 0" + "]" * 100000, "0:" + " [0" * 100000,
                     "0:" + " [0" * 1001 + " 0" + "]" * 1001 + "; 1:" + " [1" * 1000 + " 1" + "]" * 1000):
            self.gives(InvalidText, text, read_bodies, text)

    def test_as_told(self):
        for program, _, bodies in naive.samples(26, 150):
            self.both(bodies, naive.text(program.calls, naive.sets_of(bodies)))

    def test_wrong_values(self):
        for given in NO_LISTS + [[], ["0:"], ("0:",), [0]]:
            self.gives(InvalidText, given, read_bodies, given)

    def test_wrong_texts(self):
        wrong = ["", " ", ":", "0", "0 :", "1:", "0: ", " 0:", "0:0", "0:  0", "0: 0 ", "0: 0\n", "0: 1", "0: -1",
                 "0: 00", "00: 0", "0: 8", "0: x", "0: \u0660", "0: \u00b2", "0:;1:", "0:, 1:", "0:; 2:", "1:; 0:",
                 "0:; ", "0:;  1:", "; 0:", "0: [0 0", "0: 0]", "0: [0 0]]", "0: [0]", "0: [0 0 0]", "0: []",
                 "0: [ 0 0]", "0: [0 0 ]", "0: [[0 0]]", "0: [0 [0 0]", "0: [0 0] 1", "0: ] 0", "0: 0 ]", "0: 0 [",
                 "0: [1 1]; 1: 0", "0: [1]; 1: 0", "0: [1 0 0]; 1: 0", "0: [1 0] 1; 1:", "0: [0 1 0]; 1:",
                 "0: 0 0 0 0 0 0 0 0 0", "0: (0 0)", "0: [0 0][0 0]", "0: 0 0: 0", "0: 0; 0: 0", "0:\t0",
                 "0: 0;", "0: True", "0: None", "0: 0.0", "0: +0"]
        wrong.append("; ".join(f"{function}:" for function in range(9)))
        for given in wrong:
            self.gives(InvalidText, given, read_bodies, given)

    def test_each_changed_sign_is_told(self):
        text = "0: [1 0 [2]] 1; 1: 0 2; 2:"
        self.assertEqual(write_bodies(read_bodies(text)), text)
        for at in range(len(text)):
            for sign in ["", " ", "[", "]", ":", ";", "0", "1", "2", "3"]:
                changed = text[:at] + sign + text[at + 1:]
                try:
                    made = read_bodies(changed)
                except InvalidText as error:
                    self.assertIs(error.given, changed)
                else:
                    self.assertEqual(write_bodies(made), changed)
