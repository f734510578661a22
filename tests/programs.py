"""Programs for the tests that look at many of them: some that were written, and some that are made by chance, the
same ones in every run of the tests."""

import random

from tests.support import NONE, TRUE, integer, text_value

# Each is a pair of a program and its input.
WRITTEN = (
    ("var total = 0;\nproc add(n) { total = total + n; }\nahead add(1);\nahead add(2);\nprint total;\n", ()),
    ("var a = array(6); ahead for (i = 0 to 5) { a[i] = i * i; } ahead for (i = 0 to 5) { print a[i]; }", ()),
    ("var last = 0; ahead for (i = 1 to 6) { var x = last; last = x + i; print last; } print last;", ()),
    ("ahead for (i = 1 to 4) { ahead for (j = 1 to 3) { if (i * j == 6) { break; } print i * 10 + j; } }", ()),
    ("proc find(a, x) { ahead for (i = 0 to size(a) - 1) { if (a[i] == x) { return i; } } return -1; }"
     " var a = array(5); for (i = 0 to 4) { a[i] = i * 3; } var at = ahead find(a, 9); print at; at = ahead find(a, 4);"
     " print at;", ()),
    ("proc divide(a, b) { try { ahead note(a); return a / b; } catch (e) { print e; return none; } } proc note(n) { seen = n; }"
     " var seen = 0; var x = 0; for (i = -1 to 1) { x = ahead divide(6, i); print x; } print seen;", ()),
    ("record node(value, next); var list = none; proc push(v) { var n = new node(); n.value = v; n.next = list; list = n; }"
     " ahead for (i = 1 to 4) { ahead push(i); } var at = list; while (at != none) { print at.value; at = at.next; }", ()),
    ("proc ask() { var x = read(); if (x == none) { throw \"empty\"; } return x; } var sum = 0;"
     " try { while (true) { var x = ahead ask(); sum = sum + x; print sum; } } catch (e) { print e; }",
     (integer(3), integer(4), integer(-2))),
    ("proc down(n) { if (n == 0) { throw \"bottom\"; } ahead down(n - 1); print n; } try { ahead down(5); } catch (e) { print e; }"
     " ahead down(14); print 0;", ()),
    ("var n = 0; proc step() { n = n + 1; if (n mod 3 == 0) { throw n; } } ahead for (i = 1 to 4) {"
     " try { ahead step(); ahead step(); print n; } catch (e) { print -e; } }", ()),
    ("var x = none; ahead p(1); x = none; ahead p(2); print x; proc p(n) { if (x == none) { x = n; } else { x = none; } }", ()),
    ("record box(a); var b = new box(); proc make(n) { var old = b; b = new box(); b.a = old; return b == old; }"
     " ahead for (i = 1 to 5) { var same = ahead make(i); print same; } var k = 0; while (b != none) { b = b.a; k = k + 1; }"
     " print k;", ()),
    ("var t = \"\"; proc say(s) { t = t & s; print size(t); } ahead say(\"ab\"); ahead say(\"\\n\"); ahead for (i = 1 to 3) {"
     " ahead say(t); } throw t;", ()),
    ("proc fib(n) { if (n < 2) { return n; } var a = ahead fib(n - 1); var b = ahead fib(n - 2); return a + b; }"
     " var f = fib(6); print f;", ()),
    ("var a = array(3); proc swap(i, j) { var t = a[i]; a[i] = a[j]; a[j] = t; } for (i = 0 to 2) { a[i] = i; }"
     " ahead swap(0, 1); ahead swap(1, 2); ahead swap(0, 2); ahead swap(5, 0); ahead swap(1, 0); print a[0];", ()),
    ("var on = true; proc off() { on = false; } ahead off(); while (on) { print 1; } print 2; ahead off(); throw on;", ()),
    ("ahead for (i = 1 to 3) { var x = read(); ahead p(x); } proc p(v) { if (v == none) { print 0; } else { print v; } }",
     (text_value("a"), TRUE)),
    ("while (true) { ahead p(); } proc p() { n = n + 1; } var n = 1; ", ()),
    ("var k = 0; proc p() { k = k + 1; if (k < 9) { ahead p(); } k = k + 100; } ahead p(); print k;", ()),
    ("print 1; print none; var x = read(); print x; x = read(); print x; x = new_one(); proc new_one() { return array(2); }"
     " print x[0]; print x;", (NONE, text_value("z"))),
    ("proc p(n) { for (i = 1 to n) { while (true) { if (i == 2) { return i; } break; } } } ahead for (j = 1 to 3) {"
     " var r = ahead p(j); print r; }", ()),
    ("var s = 0; proc add(n) { s = s + n; if (s mod 2 == 1) { ahead add(n + 1); } s = s * 2; } ahead for (i = 1 to 4) {"
     " var t = s; ahead add(t mod 3); print s; }", ()),
    ("var x = 0; proc p() { x = x + 1; } ahead p(); var y = x; ahead p(); if (y == 1) { ahead p(); } ahead p(); print x;", ()),
    ("", ()),
    ("throw \"at once\";", (integer(1),)),
)


class Maker:
    """Makes programs by chance. Names tell mostly what variables hold: n an integer, b a bool, t a text, a an array, r a
    record; p are the procedures."""

    def __init__(self, seed):
        self.chance = random.Random(seed)
        self.counters = []
        self.loops = 0
        self.inside = False
        self.size = 0

    def pick(self, *rows):
        return self.chance.choice(rows)

    def rare(self, one_in):
        return self.chance.randrange(one_in) == 0

    def program(self):
        head = ["record pair(x, y);", "record one(x);", "var n0 = 1; var n1 = 2; var b0 = true; var t0 = \"t\";",
                "var a0 = array(3); var a1 = array(2); var r0 = new pair(); var r1 = new one(); var g = 0;",
                "a0[0] = 4; a0[1] = 5; a0[2] = 6; a1[0] = a0; r0.x = 1; r0.y = r1; r1.x = 3;"]
        self.inside = True
        for number in range(3):
            self.size = 0
            head.append(f"proc p{number}(n0, n2) {{ var n1 = n0; {self.block(2)} return {self.number(1)}; }}")
        self.inside = False
        for _ in range(self.chance.randrange(2, 5)):
            self.size = 0
            block = self.block(3)
            if not self.rare(6):
                # Later parts run too where an earlier one has thrown.
                block = f"try {{ {block} }} catch (e) {{ print e; n0 = 1; n1 = 2; b0 = true; r0 = new pair(); r0.x = 5; }}"
            head.append(block)
        head.append("print n0; print n1; print g;")
        return "\n".join(head)

    def block(self, depth):
        return " ".join(self.statement(depth) for _ in range(self.chance.randrange(1, 5)))

    def ahead(self):
        return self.pick("", "ahead ", "ahead ")

    def call(self):
        return f"p{self.chance.randrange(3)}({self.number(1)}, {self.number(1)})"

    def statement(self, depth):
        self.size += 1
        kinds = ["assign"] * 5 + ["call"] * 4 + ["print"] * 2 + ["cell"] * 4
        if depth > 0 and self.size < 14:
            kinds += ["if"] * 2 + ["while", "try"] + ["for"] * 3
        if self.rare(3):
            kinds += ["throw", "read"]
            if self.loops:
                kinds += ["break"] * 3
            if self.inside:
                kinds += ["return"]
        return getattr(self, "make_" + self.pick(*kinds))(depth)

    def make_assign(self, _):
        name, right = self.pick(
            ("n0", self.number(2)), ("n1", self.number(2)), ("g", self.number(2)), ("g", f"g + {self.number(1)}"),
            ("g", "none"), ("b0", self.truth(2)), ("t0", self.pick("\"\"", "t0 & \"u\"", "\"v\" & \"w\"")),
            ("a0", self.pick("a0", "array(3)", "a1")), ("r0", self.pick("r0", "new pair()", "r1")),
        )
        return f"{self.pick('', 'var ')}{name} = {right};"

    def make_call(self, _):
        begin = self.pick("", "", "n1 = ", "var g = ", "g = ")
        return f"{begin}{self.ahead()}{self.call()};"

    def make_print(self, _):
        return f"print {self.any()};"

    def make_cell(self, _):
        place = self.pick(f"a0[{self.number(1)}]", "a0[1]", "a0[0]", "a1[1]", "r0.x", "r0.y", "r1.x", "r0.y.x")
        return f"{place} = {self.pick(self.number(2), self.any())};"

    def make_if(self, depth):
        other = f" else {{ {self.block(depth - 1)} }}" if self.rare(2) else ""
        return f"if ({self.truth(2)}) {{ {self.block(depth - 1)} }}{other}"

    def make_while(self, depth):
        self.loops += 1
        block = self.block(depth - 1)
        self.loops -= 1
        return f"while ({self.truth(1)}) {{ g = g + 1; if (g > 6) {{ break; }} {block} }}"

    def make_for(self, depth):
        counter = f"i{len(self.counters)}"
        low, high = self.pick(("0", "2"), ("1", "3"), ("1", "n0"), ("2", "1"), ("-1", "1"), (self.number(1), "2"))
        self.counters.append(counter)
        self.loops += 1
        block = self.block(depth - 1)
        self.loops -= 1
        self.counters.pop()
        return f"{self.ahead()}for ({counter} = {low} to {high}) {{ {block} }}"

    def make_try(self, depth):
        return f"try {{ {self.block(depth - 1)} }} catch ({self.pick('e', 'g', 't0')}) {{ {self.block(depth - 1)} }}"

    def make_throw(self, _):
        return f"if ({self.truth(1)}) {{ throw {self.any()}; }}"

    def make_read(self, _):
        return f"{self.pick('g', 'n1', 'n0')} = read();"

    def make_break(self, _):
        return f"if ({self.truth(1)}) {{ break; }}"

    def make_return(self, _):
        return f"if ({self.truth(1)}) {{ return {self.any()}; }}"

    def any(self):
        if self.rare(12):
            return self.pick("a0", "r0", "new one()", "none", "-b0")
        return self.pick(self.number(2), self.truth(1), "t0", "g", "size(t0)", "none")

    def number(self, depth):
        leaves = ["n0", "n1", str(self.chance.randrange(4))] + self.counters * 2
        if self.rare(4):
            leaves += ["g", "a0[1]", "r0.x", "size(a0)", "r0.y.x"]
        if self.rare(40):
            leaves += ["none", "t0", "a0[7]", "r1.y"]
        if depth == 0 or self.rare(2):
            return self.pick(*leaves)
        op = self.pick("+", "-", "*", "mod", "/") if self.rare(3) else self.pick("+", "-")
        return f"({self.number(depth - 1)} {op} {self.number(depth - 1)})"

    def truth(self, depth):
        if depth == 0 or self.rare(3):
            return self.pick("b0", "true", "false", "not b0")
        if self.rare(4):
            return f"({self.truth(depth - 1)} {self.pick('and', 'or')} {self.truth(depth - 1)})"
        return f"({self.number(1)} {self.pick('<', '<=', '>', '>=', '==', '!=')} {self.number(1)})"


def made(count, first=0):
    """Returns pairs of a program and its input that are made by chance."""
    inputs = ((), (integer(2), TRUE), (integer(0), integer(3), text_value("x")))
    return tuple((Maker(seed).program(), inputs[seed % 3]) for seed in range(first, first + count))


class Racer:
    """Makes short programs by chance whose tasks read and write the same few variables, which hold few values, so that
    early readings are now right and now wrong."""

    def __init__(self, seed):
        self.chance = random.Random(seed)
        self.counters = []
        # The procedures that may be called here are those with lesser numbers, so each run ends.
        self.callable = 0

    def pick(self, *rows):
        return self.chance.choice(rows)

    def rare(self, one_in):
        return self.chance.randrange(one_in) == 0

    def program(self):
        parts = []
        for number in range(3):
            self.callable = number
            parts.append(f"proc p{number}(k) {{ {self.block(2)} }}")
        self.callable = 3
        parts.append("var x = 0; var y = 0; var z = 1;")
        parts.append(self.block(3, 5))
        parts.append(self.pick("print x;", "", "print y; print z;"))
        return "\n".join(parts)

    def block(self, depth, most=3):
        return " ".join(self.statement(depth) for _ in range(self.chance.randrange(1, most + 1)))

    def statement(self, depth):
        kinds = ["assign"] * 5
        if self.callable:
            kinds += ["call"] * 5
        if self.rare(6):
            kinds += ["print"]
        if depth > 0:
            kinds += ["if"] * 2 + ["for"] * 2 + ["try"]
            if self.rare(3):
                kinds += ["leave"]
        return getattr(self, "make_" + self.pick(*kinds))(depth)

    def inside(self):
        return ["k"] if self.callable < 3 else []

    def number(self):
        return self.pick("x", "y", "z", "0", "1", *self.inside(), *self.counters)

    def variable(self):
        return self.pick("x", "x", "y", "z", *self.inside())

    def test(self):
        return f"{self.number()} {self.pick('==', '<', '<=')} {self.number()}"

    def ahead(self):
        return self.pick("", "ahead ", "ahead ")

    def make_assign(self, _):
        return f"{self.variable()} = {self.pick(self.number(), '1 - ' + self.number(), self.number() + ' + 1')};"

    def make_call(self, _):
        begin = f"{self.variable()} = " if self.rare(4) else ""
        return f"{begin}{self.ahead()}p{self.chance.randrange(self.callable)}({self.number()});"

    def make_print(self, _):
        return f"print {self.number()};"

    def make_if(self, depth):
        other = f" else {{ {self.block(depth - 1)} }}" if self.rare(2) else ""
        return f"if ({self.test()}) {{ {self.block(depth - 1)} }}{other}"

    def make_for(self, depth):
        counter = f"i{len(self.counters)}"
        self.counters.append(counter)
        block = self.block(depth - 1)
        if self.rare(4):
            block += f" if ({self.test()}) {{ break; }}"
        self.counters.pop()
        return f"{self.ahead()}for ({counter} = 0 to {self.pick('1', '2')}) {{ {block} }}"

    def make_try(self, depth):
        return f"try {{ {self.block(depth - 1)} }} catch ({self.pick('e', 'x')}) {{ {self.block(depth - 1)} }}"

    def make_leave(self, _):
        leaving = "return x;" if self.callable < 3 else "throw x;"
        return f"if ({self.test()}) {{ {self.pick('throw 1;', leaving)} }}"


def races(count, first=0):
    """Returns pairs of a program, made by chance, and an empty input."""
    return tuple((Racer(seed).program(), ()) for seed in range(first, first + count))
