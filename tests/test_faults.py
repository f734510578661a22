"""[t7], [t2], [t4]: the faults of texts that are cut into tokens but are no program. A ^ marks the place."""

import unittest

from foretask.parsing import parse, parse_expression
from tests.support import Case

NAME = "expected a name"
EXPRESSION = "expected an expression"
STATEMENT = "expected a statement"
KEYWORDS = (
    "record proc var if else while for to return throw try catch print read break ahead none true false and or not"
    " mod new array size"
).split()


class TestSignsAndKeywords(Case):
    def check(self, marked, wanted):
        self.text_fault_marked(parse, marked, "expected " + wanted)

    def test_behind_an_expression_the_semicolon(self):
        for marked in (
            "var a = 1^", "var a = 1 ^2;", "var a = 1^, 2;", "a = b ^c;", "a = b^)", "a.b = 1 ^}", "a[1] = 1^]",
            "return 1^", "return a ^print 1;", "throw 1^}", "print 1^", "print 1 ^2;", "print 1\n^print 2;",
            "print a ^= 1;", "print (1)^)", 'print "a"^"b";', "print a ^not b;", "print 1\n^",
        ):
            self.check(marked, ";")

    def test_behind_a_call_or_read_the_semicolon(self):
        for marked in (
            "f()^", "f() ^+ 1;", "f()^.a;", "ahead f()^", "ahead f() ^}", "var a = f() ^+ 1;", "a = f()^.b;",
            "a = f()^[1];", "a = ahead f() ^= 1;", "a = read() ^+ 1;", "var a = read()^", "a = f() ^b;", "f()^()",
        ):
            self.check(marked, ";")

    def test_break(self):
        self.check("break^", ";")
        self.check("break ^1;", ";")
        self.check("while (a) { break ^}", ";")

    def test_records(self):
        self.check("record r^", "(")
        self.check("record r ^a;", "(")
        self.check("record r^;", "(")
        self.check("record r()^", ";")
        self.check("record r(a) ^{}", ";")
        self.check("record r()\n ^record s();", ";")
        self.check("record r(a^", ")")
        self.check("record r(a ^b);", ")")
        self.check("record r(a, b^;", ")")
        self.check("record r(a^.b);", ")")

    def test_procedures(self):
        self.check("proc f^", "(")
        self.check("proc f ^{}", "(")
        self.check("proc f()^", "{")
        self.check("proc f() ^;", "{")
        self.check("proc f() ^print 1;", "{")
        self.check("proc f(a^", ")")
        self.check("proc f(a ^b) {}", ")")
        self.check("proc f(a, b ^= 1) {}", ")")

    def test_assignments(self):
        self.check("var a^", "=")
        self.check("var a^;", "=")
        self.check("var a ^== 1;", "=")
        self.check("var a^.b = 1;", "=")
        self.check("a^", "=")
        self.check("a^;", "=")
        self.check("a ^b;", "=")
        self.check("a ^+ 1;", "=")
        self.check("a ^== 1;", "=")
        self.check("a.b^;", "=")
        self.check("a.b^(1);", "=")
        self.check("a[1]^(1);", "=")
        self.check("a[1] ^}", "=")
        self.check("a.b.c ^- 1;", "=")

    def test_brackets(self):
        self.check("a[1 ^= 2;", "]")
        self.check("a[1^", "]")
        self.check("a[1^) = 2;", "]")
        self.check("print a[1 ^2];", "]")
        self.check("print (1^;", ")")
        self.check("print (1 ^2);", ")")
        self.check("print (1^", ")")
        self.check("print ((1)^];", ")")
        self.check("print array(1^;", ")")
        self.check("print array(1^, 2);", ")")
        self.check("print size(a^];", ")")
        self.check("print array^;", "(")
        self.check("print array ^1;", "(")
        self.check("print size^[1];", "(")
        self.check("print size^", "(")

    def test_new(self):
        self.check("print new r^;", "(")
        self.check("print new r^.a;", "(")
        self.check("print new r(^1);", ")")
        self.check("print new r(^", ")")

    def test_calls(self):
        self.check("f(1^", ")")
        self.check("f(1 ^2);", ")")
        self.check("f(1, 2^;", ")")
        self.check("f(a^];", ")")
        self.check("f(g^(1));", ")")
        self.check("a = f(1^;", ")")
        self.check("ahead f^;", "(")
        self.check("ahead f ^= 1;", "(")
        self.check("ahead f^.a();", "(")
        self.check("a = ahead f^;", "(")
        self.check("var a = ahead f ^+ 1;", "(")
        self.check("a = read^;", "(")
        self.check("a = read(^1);", ")")
        self.check("var a = read^", "(")
        self.check("var a = read(^", ")")

    def test_a_name_and_a_parenthesis_are_no_term(self):
        self.check("print f^(1);", ";")
        self.check("print 1 + f^(1);", ";")
        self.check("a = 1 + f^();", ";")
        self.check("a = -f^();", ";")
        self.check("a = (f^());", ")")
        self.check("a.b = f^(1);", ";")
        self.check("a[1] = f^(1);", ";")
        self.check("a[f^(1)] = 1;", "]")
        self.check("return f^(1);", ";")
        self.check("throw f^();", ";")
        self.check("if (f^()) {}", ")")
        self.check("while (not f^()) {}", ")")
        self.check("for (i = f^() to 2) {}", "to")
        self.check("for (i = 1 to f^()) {}", ")")
        self.check("print array(f^());", ")")
        self.check("print a.f^();", ";")

    def test_if_and_while(self):
        for word in ("if", "while"):
            self.check(word + "^", "(")
            self.check(word + " ^a {}", "(")
            self.check(word + " (a ^{}", ")")
            self.check(word + " (a ^b) {}", ")")
            self.check(word + " (a^", ")")
            self.check(word + " (a ^= b) {}", ")")
            self.check(word + " (a) ^print 1;", "{")
            self.check(word + " (a)^", "{")
            self.check(word + " (a)^;", "{")

    def test_else(self):
        self.check("if (a) {} else^", "{")
        self.check("if (a) {} else ^print 1;", "{")
        self.check("if (a) {} else ^;", "{")
        self.check("if (a) {} else ^while (b) {}", "{")
        self.check("if (a) {} else ^(b) {}", "{")
        self.check("if (a) {} else if ^{}", "(")
        self.check("if (a) {} else if (b) {} else ^else {}", "{")

    def test_for(self):
        for first in ("for", "ahead for"):
            self.check(first + "^", "(")
            self.check(first + " ^i = 1 to 2 {}", "(")
            self.check(first + " (i^", "=")
            self.check(first + " (i ^to 2) {}", "=")
            self.check(first + " (i ^== 1 to 2) {}", "=")
            self.check(first + " (i = 1^", "to")
            self.check(first + " (i = 1^) {}", "to")
            self.check(first + " (i = 1^; 2) {}", "to")
            self.check(first + " (i = 1 ^until 2) {}", "to")
            self.check(first + " (i = 1 to 2 ^{}", ")")
            self.check(first + " (i = 1 to 2 ^to 3) {}", ")")
            self.check(first + " (i = 1 to 2) ^print 1;", "{")
            self.check(first + " (i = 1 to 2)^", "{")

    def test_try(self):
        self.check("try^", "{")
        self.check("try ^print 1;", "{")
        self.check("try {}^", "catch")
        self.check("try {} ^{}", "catch")
        self.check("try {}\n ^print 1;", "catch")
        self.check("try {} ^else {}", "catch")
        self.check("try {} catch^", "(")
        self.check("try {} catch ^e {}", "(")
        self.check("try {} catch ^{}", "(")
        self.check("try {} catch (e^", ")")
        self.check("try {} catch (e^, f) {}", ")")
        self.check("try {} catch (e) ^print 1;", "{")
        self.check("try {} catch (e)^", "{")

    def test_more_than_one_comparison(self):
        self.check("print a < b ^< c;", ";")
        self.check("a = b == c ^== d;", ";")
        self.check("if (a < b ^> c) {}", ")")
        self.check("a[1 < 2 ^< 3] = 1;", "]")
        self.check("for (i = a < b ^< c to 2) {}", "to")
        self.check("f(a >= b ^>= c);", ")")

    def test_a_text_is_no_sign_and_no_keyword(self):
        self.check('print 1 ^";"', ";")
        self.check('var a ^"=" 1;', "=")
        self.check('f ^"();"', "=")
        self.check('if (a^")" {}', ")")
        self.check('try {} ^"catch" (e) {}', "catch")
        self.check('for (i = 1 ^"to" 2) {}', "to")
        self.check('print 1 ^"+" 2;', ";")
        self.check('print a ^"or" b;', ";")
        self.check('if (a) ^"{"', "{")
        self.check('print a ^"." ;', ";")
        self.text_fault_marked(parse, '^"print" 1;', STATEMENT)
        self.text_fault_marked(parse, 'while (a) { ^"}"', STATEMENT)
        self.text_fault_marked(parse, 'ahead ^"for" (i = 1 to 2) {}', NAME)


class TestNames(Case):
    def check(self, marked):
        self.text_fault_marked(parse, marked, NAME)

    def test_declarations(self):
        for marked in (
            "record^", "record ^(a);", "record ^1();", "record ^if();", "record r(^", "record r(^1);", "record r(^,);",
            "record r(^;", "record r(a,^", "record r(a,^);", "record r(a, ^,);", "record r(a, ^1);", "record r(^for);",
            "record r(a, ^size);", "proc^", "proc ^(a) {}", "proc ^new() {}", "proc f(^", "proc f(^{", "proc f(^1) {}",
            "proc f(^,a) {}", "proc f(a,^) {}", "proc f(a, ^2) {}", "proc f(^(a)) {}", 'record ^"r"();',
        ):
            self.check(marked)

    def test_statements(self):
        for marked in (
            "var^", "var ^1 = 2;", "var ^= 2;", "var ^if = 2;", "var ^(a) = 2;", "for (^", "for (^1 to 2) {}",
            "for (^= 1 to 2) {}", "for (^) {}", "for (^var i = 1 to 2) {}", "try {} catch (^", "try {} catch (^) {}",
            "try {} catch (^1) {}", "try {} catch (^none) {}", "a.^", "a. ^= 1;", "a.^1 = 1;", "a.b.^[1] = 1;",
            "a.^if = 1;", "a.^(b) = 1;", "ahead for (^) {}",
        ):
            self.check(marked)

    def test_expressions(self):
        for marked in (
            "print a.^;", "print a.^1;", "print a.^(b);", "print a.^size;", "print new^;", "print new ^(r);",
            "print new ^1();", "print new ^array(1);", "print 1.^5;", 'print a.^"b";',
        ):
            self.check(marked)

    def test_ahead(self):
        for marked in (
            "ahead^", "ahead ^;", "ahead ^1;", "ahead ^while (a) {}", "ahead ^if (a) {}", "ahead ^(f)();", "ahead ^{}",
            "ahead ^ahead f();", "ahead ^print 1;", "ahead ^var a = f();", "ahead ^read();", "a = ahead^",
            "a = ahead ^1;", "a = ahead ^for (i = 1 to 2) {}", "var a = ahead ^;", "var a = ahead ^read();",
            "a = ahead ^ahead f();", "a = ahead ^(f());",
        ):
            self.check(marked)


class TestExpressions(Case):
    def check(self, marked):
        self.text_fault_marked(parse, marked, EXPRESSION)

    def test_statements(self):
        for marked in (
            "var a =^", "var a = ^;", "a = ^;", "a = ^}", "a =^", "a = ^= 1;", "a.b = ^;", "a[1] = ^;", "a[^] = 1;",
            "a[^", "f(^", "f(^,);", "f(^;", "f(1,^", "f(1,^);", "f(1, ^,);", "f(^});", "ahead f(^;", "a = f(^;",
            "a = f(1, ^);", "if (^) {}", "if (^", "if (^{", "while (^) {}", "for (i = ^to 2) {}", "for (i = ^",
            "for (i = ^) {}",
            "for (i = 1 to ^) {}", "for (i = 1 to^", "return^", "return ^}", "return ^print 1;", "return ^)", "throw^",
            "throw ^;", "print^", "print ^;", "print ^}",
        ):
            self.check(marked)

    def test_inside_expressions(self):
        for marked in (
            "print (^);", "print (^", "print 1 +^", "print 1 + ^;", "print 1 + ^* 2;", "print ^* 2;", "print ^+ 2;",
            "print -^;", "print -^", "print not ^;", "print a and ^;", "print a or ^or b;", "print a[^];",
            "print array(^);",
            "print size(^);", "print a < ^;", "print a < ^< b;", "print a == ^== b;", "print ^.a;", "print ^[1];",
            "print ^mod 2;",
            "print a & ^& b;", "print (1 + ^);", "print ^and;", "print a & ^not b;", "print 1 + ^not b;",
            "print -^not b;",
            "print ^=;", "print 1 * ^/ 2;", "print 1 mod ^;",
        ):
            self.check(marked)

    def test_right_sides_that_stand_only_alone(self):
        for marked in (
            "a.b = ^read();", "a[1] = ^read();", "a.b = ^ahead f();", "a[1] = ^ahead f();", "print ^read();",
            "a = 1 + ^read();", "a = (^read());", "return ^read();", "return ^ahead f();", "f(^read());",
            "f(^ahead g());",
            "if (^read()) {}", "throw ^ahead f();", "for (i = ^read() to 2) {}",
        ):
            self.check(marked)

    def test_keywords(self):
        may_begin = ("none", "true", "false", "not", "new", "array", "size")
        for word in KEYWORDS:
            if word not in may_begin:
                self.check("print ^" + word)
                self.check("print 1 + ^" + word + ";")


class TestStatements(Case):
    def check(self, marked):
        self.text_fault_marked(parse, marked, STATEMENT)

    def test_at_the_top(self):
        for marked in (
            "^}", "^else {}", "^1;", '^"a";', "^;", "^(a);", "^{}", "^to", "^catch (e) {}", "^read();", "^none;",
            "^true;",
            "^not a;", "^-a;", "^new r();", "^array(1);", "^size(a);", "^= 1;", "^.a = 1;", "^and", "^mod",
            "^false = 1;",
            "print 1;\n  ^}", "print 1;^;", "if (a) {} else {} ^else {}", "while (a) {} ^else {}", "^,", "^[1] = 2;",
            "try {} catch (e) {} ^catch (e) {}", "if (a) {} ^}", "proc f() {} ^;", "record r(); ^;", "f(); ^) ",
        ):
            self.check(marked)

    def test_in_blocks(self):
        for head in ("proc f() {", "if (a) {", "if (a) {} else {", "while (a) {", "for (i = 1 to 2) {", "try {",
                     "try {} catch (e) {", "while (b) { if (a) {} else if (b) {"):
            for rest in ("^", "^else", "^record r();", "^proc g() {}", "^1;", "^;", "^)", "^{}", "^]", "^to", "^catch",
                         "print 1; ^;", "break; ^", "f(); \n ^,", "if (a) {} ^catch", "# }\n^"):
                self.check(head + rest)

    def test_records_and_procedures_stand_at_the_top_alone(self):
        self.check("while (a) { ^record r(); }")
        self.check("proc f() { ^proc g() {} }")
        self.text_fault_marked(parse, "if (a) {} else ^proc f() {}", "expected {")

    def test_keywords(self):
        may_begin = ("record", "proc", "var", "if", "while", "for", "return", "throw", "try", "print", "break", "ahead")
        for word in KEYWORDS:
            if word not in may_begin:
                self.check("^" + word + " a;")
                self.check("f(); while (a) {\n ^" + word)


class TestPlaces(Case):
    def test_lines_and_columns(self):
        self.text_fault(parse, "print 1;\n\n  print 2 3;", 3, 11, "expected ;")
        self.text_fault(parse, "print 1;\nprint 2", 2, 8, "expected ;")
        self.text_fault(parse, "print 1\n", 2, 1, "expected ;")
        self.text_fault(parse, "print 1 # ;", 1, 12, "expected ;")
        self.text_fault(parse, "print 1 # ;\n  ", 2, 3, "expected ;")
        self.text_fault(parse, "while (a) {\n", 2, 1, STATEMENT)
        self.text_fault(parse, "x", 1, 2, "expected =")
        self.text_fault(parse, "var\n\n # \n\n", 5, 1, NAME)
        self.text_fault(parse, "print\n\n1 +\n\n  ;", 5, 3, EXPRESSION)

    def test_the_first_fault_from_left_to_right(self):
        self.text_fault_marked(parse, "print ^; print ;", EXPRESSION)
        self.text_fault_marked(parse, "a = 1 ^2 +;", "expected ;")
        self.text_fault_marked(parse, "if (a ^{ print ; }", "expected )")
        self.text_fault_marked(parse, "f(1 ^2,);", "expected )")
        self.text_fault_marked(parse, "record r(^1; proc", NAME)


class TestFaultsOfWordsComeFirst(Case):
    def test_behind_a_fault_of_the_tree(self):
        self.text_fault(parse, "print ; $", 1, 9, "unknown character")
        self.text_fault(parse, "} \n\n 1x", 3, 3, "number ends here")
        self.text_fault(parse, 'a a a "', 1, 8, "string not closed")
        self.text_fault(parse, 'if if "\\t"', 1, 8, "unknown escape")
        self.text_fault(parse, "a a " + "b" * 21, 1, 5, "name too long")
        self.text_fault(parse, "a a " + "1" * 61, 1, 5, "number too long")
        self.text_fault(parse, 'a a "' + "1" * 101 + '"', 1, 5, "string too long")
        self.text_fault(parse, "a a" + " " * 8000, 1, 1, "text too long")
        self.text_fault(parse, "(" * 20 + "_", 1, 21, "unknown character")
        self.text_fault(parse_expression, "1 2 $", 1, 5, "unknown character")
        self.text_fault(parse_expression, "; '", 1, 3, "unknown character")

    def test_alone(self):
        self.text_fault(parse, "print 'a';", 1, 7, "unknown character")
        self.text_fault(parse_expression, "a ! b", 1, 3, "unknown character")


class TestParseExpression(Case):
    def check(self, marked, reason):
        self.text_fault_marked(parse_expression, marked, reason)

    def test_another_token_behind(self):
        for marked in (
            "1 ^2", "a ^;", "a ^b", "a^)", "a^]", "a ^= b", "f^(1)", "a < b ^< c", "a ^not b", "1^, 2", 'a ^"b"',
            "a ^}",
            "a\n ^if", "(a) ^(b)", "a ^else", "new r() ^()", "a ^to b", "1 ^none", "1 ^end",
        ):
            self.check(marked, "expected end")

    def test_no_expression(self):
        for marked in ("^", "^;", "  ^)", "^if", "# a\n^", "^read()", "^ahead f()", "^var a = 1;"):
            self.check(marked, EXPRESSION)

    def test_inside(self):
        self.check("(a^", "expected )")
        self.check("a[1^", "expected ]")
        self.check("a.^", NAME)
        self.check("1 + ^", EXPRESSION)
        self.check("new^", NAME)
        self.check("size ^a", "expected (")

    def test_remarks_and_newlines_may_follow(self):
        self.assertEqual(parse_expression("a # b"), ("name", "a"))
        self.assertEqual(parse_expression("\n a \n\n"), ("name", "a"))


if __name__ == "__main__":
    unittest.main()
