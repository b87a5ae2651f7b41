import random

from ringstays.errors import BadLine
from ringstays.lines import lines, read_source
from ringstays.source import Source
from tests import naive_source
from tests.cases import NO_INTEGERS, NO_LISTS, Case
from tests.test_source import nested
from tests.test_sums import deep

TEXT = ["function 0 a", "  ask a", "    call b = 1 ()", "  else", "  end", "end", "function 1", "end"]

# Rows of function 0 a b, where a function 1 has no names; each one is right as it is, and wrong in no other form.
RIGHT = ["set a = 12", "set ax1 = a", "store 3 = [3]", "show (a + 1)", "show (a - 1)", "show (a * 1)", "show (a < 1)",
         "show (a rest 1)", "show (rest rest rest)", "give ((a + 1) - ([7] * 65535))", "set set = set", "set end = 0",
         "call a = 1 ()", "call 1 ()", "call 0 (1, (a + 2))", "call x = 0 ([0], b)", "choose a = 2 of 1 ()",
         "choose 2 of 0 (a, b)", "choose function = 7 of 0 ((a + 1), [1])", "show 0"]
WRONG = ["", " ", "set", "set a", "set a =", "set a = ", "set a  = 1", "set a = 1 ", "set a=1", "set A = 1",
         "set 1a = 1",
         "set a = 01", "set a = 65536", "set a = -1", "set a = 1 + 2", "set a = (1 + 2", "set a = 1 + 2)",
         "set a = (1 +2)",
         "set a = (1  + 2)", "set a = ( 1 + 2)", "set a = (1 + 2 )", "set a = (1 / 2)", "set a = (1 add 2)",
         "set a = ()",
         "set a = (1)", "set a = [8]", "set a = [1", "set a = [ 1]", "set a = [01]", "set a = [a]", "set a = []",
         "set = 1",
         "set a = b = 1", "set a_ = 1", "store 8 = 1", "store a = 1", "store 03 = 1", "store 1 1", "store = 1", "show",
         "show 1 2", "show  1", "Show 1", "show 1\n", "show \u0661", "show 1\u00b2", "show a\u0663", "give", "give (a)",
         "gives 1",
         "call", "call 1", "call 1 (", "call 1 )", "call 1()", "call 1 ( )", "call 1 (1)", "call 0 ()", "call 0 (1)",
         "call 0 (1,2)", "call 0 (1 , 2)", "call 0 (1, 2, 3)", "call 0 (1, )", "call 0 (1, 2) ", "call 8 ()",
         "call -1 ()",
         "call 01 ()", "call a 1 ()", "call a = b ()", "call = 1 ()", "call a = b = 1 ()", "call 1 () ()",
         "call A = 1 ()",
         "choose 2 of ()", "choose 2 of 1", "choose of 1 ()", "choose 2 of 1  ()", "choose 2 of 1 1 ()",
         "choose 8 of 1 ()",
         "choose 2 of 0 1 ()", "choose 2 of 0 1 (1, 2)", "choose 2 of 1 0 ()", "choose 2 of 2 3 4 5 ()",
         "choose 2 of 8 ()",
         "choose a = 2 of 0 (a)", "choose a 2 of 1 ()", "choose 2 of of 1 ()", "choose 2 1 ()", "choose a = of 1 ()",
         "ask", "times", "ask a b", "times (a +)", "function 1", "nothing", "show " + "1" * 5000, "show " + "a" * 41,
         "show " + "(" * 500, "show " + "(" * 5000 + "a", "show (((a)))", "call 2 (1, 2, 3, 4, 5)",
         "choose 2 of 2 3 (1, 2, 3, 4, 5)", "show (a + 1) 1", "show (a + 1))", "show a + 1", "show [3", "show 3]"]

# These are right, but for a function 1 that begins without names.
FIXING = ["call 1 (1)", "choose 2 of 0 1 (1, 2)"]


class Examples(Case):
    def test_examples(self):
        source = read_source(TEXT)
        self.assertEqual(lines(source)[2:5], ["    call b = 1 ()", "  else", "  end"])
        self.raises(BadLine, {"at": 2}, read_source, ["function 0", "  show (1 + 2)"])


class Reading(Case):
    def bad(self, at, texts):
        self.raises(BadLine, {"at": at}, read_source, texts)

    def test_there_and_back(self):
        source = random.Random(175)
        for _ in range(600):
            made = naive_source.Sampler(source, 8, deep=4).made()
            told = lines(made)
            self.assertEqual(told, naive_source.lines(made))
            self.assertTrue(read_source(told) == made)
            self.assertTrue(read_source(tuple(told)) == made)

    def test_beginnings(self):
        source = random.Random(1750)
        for _ in range(150):
            told = lines(naive_source.Sampler(source, 6).made())
            for count in range(len(told)):
                right = naive_source.first_bad(told[:count])
                if right is None:
                    self.assertEqual(lines(read_source(told[:count])), told[:count])
                else:
                    self.assertEqual(right, count)
                    self.bad(count, told[:count])

    def spoilt(self, source, told):
        """The lines with one of them spoilt, struck, doubled or moved."""
        told, at = list(told), source.randrange(len(told))
        kind, line = source.randrange(8), told[at]
        if kind == 0:
            del told[at]
        elif kind == 1:
            told.insert(at, line)
        elif kind == 2:
            told.insert(source.randrange(len(told)), told.pop(at))
        elif kind == 3:
            told[at] = source.choice((" " + line, "  " + line, line[1:], line[2:], line + " "))
        elif kind == 4:
            told[at] = line[:line.index(line.strip()[:1])] + source.choice(RIGHT + WRONG[1:60])
        elif kind == 5 and len(line) > 1:
            place = source.randrange(len(line))
            told[at] = line[:place] + source.choice("01 9ab()[]+-=,x") + line[place + source.randint(0, 1):]
        elif kind == 6:
            told.insert(at, source.choice(("end", "else", "  end", "  else", "    end", "function 1", "function 2 a",
                                           "")))
        else:
            told.append(source.choice(("end", "function 9", "function " + str(told.count("end")), "  show 1")))
        return told

    def test_lines_that_go_wrong(self):
        source, told = random.Random(1751), []
        for _ in range(1200):
            texts = self.spoilt(source, lines(naive_source.Sampler(source, 5).made()))
            right = naive_source.first_bad(texts)
            told.append(right is None)
            if right is None:
                self.assertEqual(lines(read_source(texts)), texts)
            else:
                self.bad(right, texts)
        self.assertGreater(min(told.count(True), told.count(False)), 100)

    def test_single_rows(self):
        for line in RIGHT:
            texts = ["function 0 a b", "  " + line, "end", "function 1", "end"]
            self.assertEqual(lines(read_source(texts)), texts)
        for line in WRONG:
            texts = ["function 0 a b", "  " + line, "end", "function 1", "end"]
            self.bad(3 if line in FIXING else 1, texts)
            if len(line) < 200:
                self.assertEqual(naive_source.first_bad(texts), 3 if line in FIXING else 1)

    def test_no_list(self):
        for value in NO_LISTS:
            self.bad(-1, value)
        for value in ([], ()):
            self.bad(0, value)

    def test_wrong_items(self):
        for value in NO_INTEGERS + [0, ["function 0"], ("end",)]:
            if not isinstance(value, str):
                self.bad(0, [value])
                self.bad(1, ["function 0", value])
                self.bad(8, TEXT + [value])

    def test_heads(self):
        for line in ("", "function", "function ", "function 0 ", "function  0", " function 0", "function 1",
                     "function 00",
                     "function 0 A", "function 0 a a", "function 0 a b c d e", "function 0 1", "function 0  a",
                     "function 0 a ",
                     "Function 0", "end", "else", "show 1", "  show 1", "function 0 a,b", "function 0 " + "a" * 41):
            self.bad(0, [line])
            self.bad(0, [line, "end"])
        for line in ("function 0", "function 0 a", "function 0 a b c d", "function 0 function end rest",
                     "function 0 " + "a" * 40):
            self.assertEqual(lines(read_source([line, "end"])), [line, "end"])
            self.bad(1, [line])
            self.bad(1, [line, "function 1"])
            self.bad(2, [line, "end", "end"])
            self.bad(2, [line, "end", "function 0"])
            self.bad(2, [line, "end", ""])
            self.bad(3, [line, "end", "function 1"])

    def test_eight_functions(self):
        texts = [line for function in range(8) for line in (f"function {function}", "end")]
        self.assertEqual(len(read_source(texts)), 8)
        self.bad(16, texts + ["function 8"])
        self.bad(16, texts + [""])
        self.bad(15, ["function 0", "  call 7 ()"] + texts[1:14])
        self.assertEqual(len(read_source(["function 0", "  call 7 ()"] + texts[1:])), 8)
        self.bad(1, ["function 0", "  call 8 ()"] + texts[1:])

    def test_else_and_end(self):
        self.bad(2, ["function 0", "  ask 1", "  end", "end"])
        self.bad(2, ["function 0", "  times 1", "  else", "end"])
        self.bad(3, ["function 0", "  ask 1", "  else", "  else", "end"])
        self.bad(1, ["function 0", "else"])
        self.bad(1, ["function 0", "  else"])
        self.bad(1, ["function 0", "  end"])
        for wrong in ("else", "    else", " else", "  else ", "Else", "end", "    end"):
            self.bad(3, ["function 0", "  ask 1", "    show 1", wrong])
        for wrong in ("end", "    end", " end", "  end ", "else", "  else"):
            self.bad(4, ["function 0", "  ask 1", "  else", "    show 1", wrong])
        self.bad(4, ["function 0", "  ask 1", "  else", "  end"])
        self.bad(3, ["function 0", "  times 1", "    show 1"])
        self.bad(2, ["function 0", "  show 1", "    show 1", "end"])
        self.bad(2, ["function 0", "  ask 1", "  show 1"])
        self.bad(2, ["function 0", "  ask 1", "      show 1"])

    def test_calls_fix_the_number_of_names(self):
        for call in ("call 1 (1, 2)", "choose 0 of 1 (1, 2)", "choose x = 0 of 1 2 (1, 2)"):
            texts = ["function 0", "  " + call, "end"]
            self.bad(3, texts)
            for names in ("", " a", " a b c"):
                self.bad(3, texts + ["function 1" + names, "end"])
            self.bad(4, texts + ["function 1 a b"])
            self.bad(2, ["function 0", "  " + call, "  call 1 (1)", "end"])
            self.bad(2, ["function 0", "  " + call, "  choose 0 of 1 3 ()", "end"])
        self.assertEqual(len(read_source(["function 0", "  call 1 (1, 2)", "end", "function 1 a b", "end"])), 2)
        self.bad(1, ["function 0 a", "  call 0 ()", "end"])
        self.bad(1, ["function 0 a", "  choose 0 of 0 1 (1, 2)", "end"])
        self.bad(3, ["function 0 a", "  choose 0 of 0 1 (1)", "end", "function 1", "end"])
        self.bad(4, ["function 0", "end", "function 1", "  call 2 (1)", "  call 0 (1)"])
        self.bad(1, ["function 0", "  call 1 (1, 2, 3, 4, 5)", "end"])
        self.assertEqual(len(read_source(["function 0", "  call 1 (1, 2, 3, 4)", "end", "function 1 a b c d", "end"])),
                         2)

    def test_functions_that_are_missing(self):
        texts = ["function 0", "  call 3 (1)", "end"]
        self.bad(3, texts)
        for function in (1, 2):
            texts += [f"function {function} a b", "end"]
            self.bad(len(texts), texts)
        self.bad(7, texts + ["function 3", "end"])
        self.assertEqual(len(read_source(texts + ["function 3 a", "end"])), 4)
        self.bad(9, texts + ["function 3 a", "end", "  show 1"])

    def test_depths_and_numbers_of_rows(self):
        for rows in ([("show", deep(8))], [("show", 1)] * 400, nested(40), nested(39, [("show", 1)], "ask"),
                     nested(39, [("ask", 1, [], [])])):
            source = Source([((), rows)])
            self.assertTrue(read_source(lines(source)) == source)
        self.bad(1, ["function 0", "  show " + naive_source.sum_text(deep(9)), "end"])
        self.bad(401, ["function 0"] + ["  show 1"] * 401 + ["end"])
        self.bad(401, ["function 0", "  times 1"] + ["    show 1"] * 400)
        deeper = ["function 0"] + ["  " * depth + "times 1" for depth in range(1, 42)]
        self.bad(41, deeper)
        self.bad(41, deeper[:41])
        self.bad(41, deeper[:41] + ["  " * 41 + "show 1"])
        self.bad(41, deeper[:41] + ["  " * 40 + "else"])
        self.assertEqual(len(lines(read_source(deeper[:41] + ["  " * depth + "end" for depth in range(40, -1, -1)]))),
                         82)

    def test_kinds_of_arguments(self):
        texts = list(TEXT)
        source = read_source(lines=texts)
        self.assertEqual([lines(source=source), texts], [TEXT, TEXT])
        lines(source).clear()
        texts.clear()
        self.assertEqual([lines(source), type(lines(source))], [TEXT, list])
        self.assertTrue(source == Source([(("a",), [("ask", "a", [("call", "b", 1, [])], [])]), ((), [])]))
