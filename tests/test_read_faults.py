"""read of texts with a fault: its kind, and its place."""

import unittest

from texts import atoms, lines, read

GOOD = lines("law zz: zp -> zq", "rule zr: => zs")


class FaultTest(unittest.TestCase):
    # The line stands behind whatever it needs; then all that behind further good lines, too.
    def fault(self, kind, line, before=""):
        for good in ("", GOOD, GOOD + lines("law zy: -> zt")):
            text = good + before
            self.assertEqual(read(text), [0], text)
            self.assertEqual(read(text + line + "\n"), [-6, kind, len(text)], line)
            self.assertEqual(read(text + line + "\nlaw zx: -> zu\n"), [-6, kind, len(text)], line)

    def good(self, *each):
        self.assertEqual(read(lines(*each)), [0], each)


class Kind1(FaultTest):
    def test_first_word(self):
        for line in ("", "x", "Law a: -> p", "laws a: -> p", "la a: -> p", "law", "rule", "weigh", "a: -> p",
                     "weighs a > b", "# law a: -> p", "~law a: -> p", "law, a: -> p", "law: a: -> p"):
            self.fault(1, line)

    def test_empty_line(self):
        self.assertEqual(read("\n"), [-6, 1, 0])
        self.fault(1, "")
        self.fault(1, " ")

    def test_blank_too_many(self):
        for line in (" law a: p, q -> r", "law  a: p, q -> r", "law a : p, q -> r", "law a:  p, q -> r",
                     "law a: p,  q -> r", "law a: p , q -> r", "law a: p, q  -> r", "law a: p, q -  > r",
                     "law a: p, q ->  r", "law a: p, q -> r ", "law a: ~ p -> r", "law a: p -> ~ r",
                     "law a:  -> r", " rule a: => r", "rule a: p =>  r", "rule a: => r "):
            self.fault(1, line)
        before = lines("rule a: => p", "rule b: => q")
        for line in (" weigh a > b", "weigh  a > b", "weigh a  > b", "weigh a >  b", "weigh a > b "):
            self.fault(1, line, before)

    def test_blank_missing(self):
        for line in ("lawa: p, q -> r", "law a:p, q -> r", "law a: p,q -> r", "law a: p, q-> r", "law a: p, q ->r",
                     "law a:-> p", "law a: ->p", "rulea: => p", "rule a:=> p", "rule a: =>p"):
            self.fault(1, line)
        before = lines("rule a: => p", "rule b: => q")
        for line in ("weigha > b", "weigh a> b", "weigh a >b", "weigh a>b"):
            self.fault(1, line, before)

    def test_other_white_bytes(self):
        for line in ("law\ta: -> p", "law a:\t-> p", "law a: -> p\r", "law a: -> p\t", "law a: -> p\0",
                     "law a:\xa0-> p", "law a: -> p\x0b", "law a: -> p\x85"):
            self.fault(1, line)

    def test_name_of_16_bytes(self):
        long = "abcdefghijklmnop"
        for line in (f"law {long}: -> p", f"rule {long}: => p", f"law a: {long} -> p", f"law a: ~{long} -> p",
                     f"law a: -> {long}", f"rule a: q, {long} => p", f"rule a: => ~{long}",
                     f"weigh {long} > zr", f"weigh zr > {long}"):
            self.fault(1, line)
        name = long[:15]
        self.good(f"law {name}: {name}, ~{name} -> ~{name}")
        self.good(f"rule {name}: {name}, ~{name} => ~{name}", "rule b: => p", f"weigh {name} > b")

    def test_name_that_begins_with_digit_or_hyphen(self):
        for name in ("1", "9a", "-", "-a", "->", "0-"):
            for line in (f"law {name}: -> p", f"rule {name}: => p", f"law a: {name} -> p", f"law a: -> {name}",
                         f"law a: ~{name} -> p", f"rule a: => ~{name}", f"weigh {name} > zr", f"weigh zr > {name}"):
                self.fault(1, line)

    def test_byte_that_no_name_has(self):
        wrong = [chr(byte) for byte in range(256)
                 if byte not in (10, 32) and chr(byte) not in "abcdefghijklmnopqrstuvwxyz0123456789-"]
        self.assertEqual(len(wrong), 256 - 2 - 37)
        for sign in wrong:
            for line in (f"law a{sign}: -> p", f"rule a: b{sign}c => p", f"law a: b{sign}c -> p", f"law a: -> b{sign}",
                         f"rule a: => b{sign}", f"weigh a{sign} > b", f"weigh a > b{sign}"):
                self.assertEqual(read(line + "\n"), [-6, 1, 0], line)

    def test_opposite_sign(self):
        for line in ("law a: ~~p -> q", "law a: ~ -> q", "law a: -> ~", "law a: -> ~~q", "law ~a: -> p",
                     "rule ~a: => p", "weigh ~zr > zr", "weigh zr > ~zr", "law a: p~ -> q"):
            self.fault(1, line)

    def test_empty_name(self):
        for line in ("law : -> p", "rule : => p", "law  -> p", "law a: , p -> q"):
            self.fault(1, line)

    def test_seventh_literal(self):
        self.good("law a: " + ", ".join(atoms(6)) + " -> q", "rule b: " + ", ".join(atoms(6)) + " => q")
        for number in (7, 8, 20):
            self.fault(1, "law a: " + ", ".join(atoms(number)) + " -> q")
            self.fault(1, "rule a: " + ", ".join(atoms(number)) + " => q")

    def test_comma(self):
        for line in ("law a: p q -> r", "law a: p, q, -> r", "law a: p, -> r", "law a: p, q r -> s", "law a: p,, q -> r",
                     "law a: , -> r", "law a: ,p -> r", "law a: p, q -> r,", "rule a: p q => r", "rule a: p, => r",
                     "law a:, p -> r", "law a: p; q -> r"):
            self.fault(1, line)

    def test_colon(self):
        for line in ("law a -> p", "law a p -> q", "law a:: -> p", "law :a -> p", "rule a => p", "law a, -> p"):
            self.fault(1, line)

    def test_arrow(self):
        for line in ("law a: => p", "rule a: -> p", "law a: p => q", "rule a: p -> q", "law a: p q", "law a: p > q",
                     "law a: p - q", "law a: p", "law a:", "law a: -> p -> q", "law a: p -> => q", "rule a: = > p",
                     "law a: -> -> p", "rule a: => => p", "law a: ->> p"):
            self.fault(1, line)

    def test_missing_head(self):
        for line in ("law a: ->", "law a: p ->", "law a: p, q -> ", "rule a: =>", "rule a: p =>", "rule a: => "):
            self.fault(1, line)

    def test_head_is_one_literal(self):
        for line in ("law a: -> p, q", "law a: -> p q", "rule a: => p, q", "rule a: => p q"):
            self.fault(1, line)

    def test_weigh(self):
        before = lines("rule a: => p", "rule b: => q", "rule c: => r")
        for line in ("weigh a < b", "weigh a b", "weigh a >", "weigh > b", "weigh a > b > c", "weigh a: > b",
                     "weigh a => b", "weigh a > b, c", "weigh a >> b", "weigh"):
            self.fault(1, line, before)


class Kind2(FaultTest):
    def test_name_told_again(self):
        for first in ("law a: -> p", "rule a: => p"):
            for second in ("law a: -> q", "rule a: => q"):
                self.fault(2, second, lines(first))
                self.fault(2, second, lines("law b: -> r", first, "rule c: => s"))

    def test_beginnings_are_other_names(self):
        self.good("law a: -> p", "law aa: -> q", "rule aaa: => p", "rule a-: => q")

    def test_a_name_of_an_atom_is_free(self):
        self.good("law a: b -> c", "law b: -> d", "rule c: => e")


class Kind3(FaultTest):
    def test_literal_twice_in_the_body(self):
        for body in ("p, p", "~p, ~p", "p, q, p", "q, p, p", "p, q, r, s, t, p"):
            self.fault(3, f"law a: {body} -> h")
            self.fault(3, f"rule a: {body} => h")

    def test_atom_and_opposite_are_two(self):
        self.good("law a: p, ~p -> q", "rule b: ~p, q, p => r")

    def test_same_body_and_head(self):
        for body in ("", " p", " ~p", " p, q", " p, q, r, s, t, u"):
            self.fault(3, f"law b:{body} -> h", lines(f"law a:{body} -> h"))
            self.fault(3, f"rule b:{body} => h", lines(f"rule a:{body} => h"))
            self.fault(3, f"law b:{body} -> h", lines(f"law a:{body} -> h", "law c: -> x", f"rule d:{body} => h"))
            self.fault(3, f"rule b:{body} => h", lines(f"rule a:{body} => h", "rule c: => x", f"law d:{body} -> h"))

    def test_other_order_other_head_other_sort(self):
        self.good("law a: p, q -> h", "law b: q, p -> h", "rule c: p, q => h", "rule d: q, p => h")
        self.good("law a: p -> h", "law b: p -> i", "law c: ~p -> h", "law d: p, q -> h", "law e: -> j")
        self.good("rule a: p => h", "rule b: p => ~h", "rule c: ~p => h", "rule d: p, q => h", "rule e: => h")
        self.good("rule a: => h", "law b: -> h")
        self.good("law a: -> h", "rule b: => h")


class Kind4(FaultTest):
    # The shared fault would add laws of its own: here each line is counted.
    def told(self, before, line, answer):
        text = lines(*before)
        self.assertEqual(read(text), [0], text)
        self.assertEqual(read(text + line + "\n"), answer or [-6, 4, len(text)], line)

    def test_65th_law(self):
        laws = [f"law a{i}: p{i % 8}, q{i // 8} -> h" for i in range(64)]
        self.told(laws[:63], laws[63], [0])
        self.told(laws, "law b: -> h", None)
        self.told(["rule r: => h"] + laws, "law b: -> h", None)
        self.told(laws, "rule b: => h", [0])

    def test_11th_rule(self):
        rules = [f"rule a{i}: p => h{i}" for i in range(10)]
        self.told(rules[:9], rules[9], [0])
        self.told(rules, "rule b: => h0", None)
        self.told(["law c: -> h0"] + rules, "rule b: => h0", None)
        self.told(rules, "law b: -> h0", [0])

    def test_65th_atom_by_a_law(self):
        laws = [f"law a{i}: -> p{i}" for i in range(63)]
        self.told(laws, "law b: -> q", [0])
        self.told(laws, "law b: q -> q", [0])
        self.told(laws, "law b: q, ~q -> p1", [0])
        self.told(laws, "law b: q -> r", None)
        self.told(laws, "law b: q, r -> p1", None)
        self.told(laws, "law b: ~q -> ~r", None)
        self.told(laws, "law b: p1, p2, p3, p4, p5, p6 -> ~q", [0])

    def test_65th_atom_by_a_rule(self):
        laws = [f"law a{i}: -> p{i}" for i in range(63)]
        self.told(laws, "rule b: => p1", [0])
        self.told(laws, "rule p2: => q", [0])
        self.told(laws, "rule b: => b", [0])
        self.told(laws, "rule b: => q", None)
        self.told(laws, "rule b: q => p1", None)
        self.told(laws + ["rule b: => p1"], "rule c: => p1", [-6, 3, len(lines(*laws, "rule b: => p1"))])
        self.told(laws + ["rule b: => p1"], "rule c: => p2", None)
        self.told(laws + ["rule b: => p1"], "rule p3: => p2", [0])

    def test_law_names_are_no_atoms(self):
        laws = [f"law a{i}: -> p{i}" for i in range(63)]
        self.told(laws, "law z: p1 -> p2", [0])
        self.told(laws + ["law z: -> q"], "rule y: => p1", None)

    def test_many_atoms_at_once(self):
        laws = [f"law a{i}: -> p{i}" for i in range(57)]
        self.told(laws, "law b: q1, q2, q3, q4, q5, q6 -> q7", [0])
        self.told(laws, "rule b: q1, q2, q3, q4, q5, q6 => q7", None)
        self.told(laws[:56], "rule b: q1, q2, q3, q4, q5, q6 => q7", [0])


class Kind5(FaultTest):
    def test_no_rule_of_that_name_before(self):
        before = lines("rule a: p => q", "law b: -> r")
        for line in ("weigh b > a", "weigh a > b", "weigh p > a", "weigh a > q", "weigh x > a", "weigh a > x",
                     "weigh x > y", "weigh b > b", "weigh x > x"):
            self.fault(5, line, before)

    def test_rule_that_stands_behind(self):
        text = lines("rule a: => p", "weigh a > b", "rule b: => q")
        self.assertEqual(read(text), [-6, 5, len("rule a: => p\n")])
        text = lines("rule a: => p", "weigh b > a", "rule b: => q")
        self.assertEqual(read(text), [-6, 5, len("rule a: => p\n")])
        self.assertEqual(read(lines("weigh a > b", "rule a: => p", "rule b: => q")), [-6, 5, 0])


class Kind6(FaultTest):
    RULES = lines("rule a: => p", "rule b: => q", "rule c: => r", "rule d: => s")

    def test_rule_over_itself(self):
        self.fault(6, "weigh a > a", self.RULES)
        self.fault(6, "weigh b > b", self.RULES + lines("weigh a > b"))

    def test_rings(self):
        self.fault(6, "weigh b > a", self.RULES + lines("weigh a > b"))
        self.fault(6, "weigh c > a", self.RULES + lines("weigh a > b", "weigh b > c"))
        self.fault(6, "weigh c > a", self.RULES + lines("weigh b > c", "weigh a > b"))
        self.fault(6, "weigh d > a", self.RULES + lines("weigh c > d", "weigh a > b", "weigh b > c"))
        self.fault(6, "weigh b > c", self.RULES + lines("weigh c > d", "weigh a > b", "weigh d > a"))

    def test_ring_of_ten(self):
        rules = lines(*[f"rule r{i}: => p{i}" for i in range(10)])
        chain = [f"weigh r{i} > r{i + 1}" for i in range(9)]
        for order in (chain, chain[::-1], chain[::2] + chain[1::2]):
            text = rules + lines(*order)
            self.assertEqual(read(text), [0])
            self.assertEqual(read(text + "weigh r9 > r0\n"), [-6, 6, len(text)])

    def test_told_again_or_following_is_no_fault(self):
        self.assertEqual(read(self.RULES + lines("weigh a > b", "weigh a > b")), [0])
        self.assertEqual(read(self.RULES + lines("weigh a > b", "weigh b > c", "weigh a > c", "weigh a > b")), [0])
        self.assertEqual(read(self.RULES + lines("weigh a > b", "weigh c > d", "weigh a > d", "weigh c > b")), [0])


class Kind7(FaultTest):
    def test_in_one_step(self):
        self.fault(7, "law b: -> ~p", lines("law a: -> p"))
        self.fault(7, "law b: -> p", lines("law a: -> ~p"))

    def test_in_several_steps(self):
        self.fault(7, "law b: q -> ~p", lines("law a: -> p", "law c: p -> q"))
        self.fault(7, "law d: -> p", lines("law a: r -> ~p", "law b: q -> r", "law c: p -> q"))
        self.fault(7, "law d: p, q -> ~p", lines("law b: -> q", "law a: q -> p"))
        self.fault(7, "law e: -> s", lines("law a: t -> u", "law b: s -> t", "law c: s, t -> v", "law d: u, v -> ~s"))

    def test_one_law_by_itself(self):
        self.fault(7, "law a: p -> ~p", lines("law b: -> p"))
        self.good("law a: p -> ~p", "law b: ~q -> q")

    def test_what_does_not_follow_does_not_clash(self):
        self.good("law a: -> p", "law b: q -> ~p")
        self.good("law a: -> p", "law b: p, q -> ~p", "law c: ~q -> q")
        self.good("law a: p -> q", "law b: p -> ~q")

    def test_rules_alone_do_not_make_it(self):
        self.good("law a: -> p", "rule b: => ~p", "rule c: => q", "rule d: => ~q", "law e: -> r")
        self.good("rule a: => p", "law b: p -> ~a", "law c: -> ~a")
        self.good("rule a: => ~p", "rule b: => p", "law c: -> p", "law d: -> q")
        self.good("law c: -> ~a", "rule a: => p")

    def test_long_chain(self):
        laws = [f"law a{i:02}: p{i + 1} -> p{i}" for i in range(62)]
        for order in (laws, laws[::-1]):
            text = lines("law b: p0 -> ~p62", *order)
            self.assertEqual(read(text), [0])
            self.assertEqual(read(text + "law c: -> p62\n"), [-6, 7, len(text)])


class FirstFault(FaultTest):
    def test_first_of_two_faulty_lines(self):
        self.assertEqual(read("x\ny\n"), [-6, 1, 0])
        text = lines("rule a: => p", "weigh a > a", "x", "law a: -> p")
        self.assertEqual(read(text), [-6, 6, 13])
        text = lines("law a: -> p", "law a: -> q", "x")
        self.assertEqual(read(text), [-6, 2, 12])
        text = lines("law a: -> p", "law b: -> ~p", "law a: -> q")
        self.assertEqual(read(text), [-6, 7, 12])

    def test_a_fault_is_not_made_later_by_a_faulty_line(self):
        self.assertEqual(read(lines("weigh a > b", "x")), [-6, 5, 0])

    def test_1_ahead_of_2_and_3(self):
        self.fault(1, "law a: p, p -> q,", lines("law a: -> p"))
        self.fault(1, "law a: p, q, r, s, t, u, p -> h")
        self.fault(1, "weigh a > a > a")

    def test_2_ahead_of_3(self):
        self.fault(2, "law a: -> p", lines("law a: -> p"))
        self.fault(2, "law a: q, q -> p", lines("rule a: => p"))

    def test_2_ahead_of_7(self):
        self.fault(2, "law a: -> ~p", lines("law a: -> p"))

    def test_2_and_3_ahead_of_4(self):
        rules = lines(*[f"rule a{i}: p => h{i}" for i in range(10)])
        self.assertEqual(read(rules + "rule a3: => x\n"), [-6, 2, len(rules)])
        self.assertEqual(read(rules + "rule b: p => h3\n"), [-6, 3, len(rules)])
        self.assertEqual(read(rules + "rule b: p, p => h3\n"), [-6, 3, len(rules)])
        self.assertEqual(read(rules + "rule b: => h3\n"), [-6, 4, len(rules)])
        laws = lines(*[f"law a{i}: -> p{i}" for i in range(64)])
        self.assertEqual(read(laws + "law a3: -> x\n"), [-6, 2, len(laws)])
        self.assertEqual(read(laws + "law b: x, x -> y\n"), [-6, 3, len(laws)])
        self.assertEqual(read(laws + "law b: -> p3\n"), [-6, 3, len(laws)])

    def test_3_ahead_of_7(self):
        self.fault(3, "law b: p, p -> ~p", lines("law a: -> p"))

    def test_4_ahead_of_7(self):
        laws = lines(*[f"law a{i}: -> p{i}" for i in range(64)])
        self.assertEqual(read(laws + "law b: -> ~p3\n"), [-6, 4, len(laws)])
        fewer = lines(*[f"law a{i}: -> p{i}" for i in range(63)], "law b: q -> q")
        self.assertEqual(read(fewer + "law c: p1, r -> ~p1\n"), [-6, 4, len(fewer)])

    def test_5_ahead_of_6(self):
        self.fault(5, "weigh x > x")
        self.fault(5, "weigh a > a", lines("law a: -> p"))


class EndWithinALine(FaultTest):
    def ends_within(self, text):
        self.assertEqual(read(text), [-6, 1, len(text)], text)

    def test_a_good_line_without_its_end(self):
        self.ends_within("law a: -> p")
        self.ends_within(lines("law a: -> p") + "rule b: => q")

    def test_anything_else_without_an_end(self):
        for end in ("x", " ", "law", "law a: -> ", "weigh a > b", "law a: p, p -> q", "\r", "\0"):
            self.ends_within(end)
            self.ends_within(GOOD + end)

    def faulty_before(self, kind, line, before=""):
        for good in (before, GOOD + before):
            self.assertEqual(read(good), [0], good)
            for between in ("", "law zx: -> zu\n", "y\n"):
                for end in ("y", " ", "\0", "law", "law zv: -> zw", "weigh zr > zr"):
                    text = good + line + "\n" + between + end
                    self.assertEqual(read(text), [-6, kind, len(good)], text)

    def test_behind_a_faulty_line(self):
        self.faulty_before(1, "x")
        self.faulty_before(1, "")
        self.faulty_before(2, "law a: -> q", lines("law a: -> p"))
        self.faulty_before(3, "law a: p, p -> q")
        self.faulty_before(3, "rule b: => p", lines("rule a: => p"))
        self.faulty_before(5, "weigh a > b", lines("rule a: => p"))
        self.faulty_before(6, "weigh b > a", lines("rule a: => p", "rule b: => q", "weigh a > b"))
        self.faulty_before(7, "law b: -> ~p", lines("law a: -> p"))

    def test_behind_a_rule_too_many(self):
        rules = lines(*[f"rule a{i}: => p{i}" for i in range(10)])
        self.ends_within(rules + "rule b: => q")
        self.assertEqual(read(rules + lines("rule b: => q") + "rule c: => r"), [-6, 4, len(rules)])

    # Kind 1 is the first of its reasons, whatever kind the line would have with its line feed.
    def test_a_line_that_would_be_faulty_with_its_end(self):
        before = lines("law a: -> p", "rule b: => q", "rule c: => r", "weigh b > c")
        for end in ("law a: -> s", "law d: -> p", "rule d: => q", "law d: q, q -> s", "weigh b > x", "weigh c > b",
                    "law d: -> ~p"):
            answer = read(before + end + "\n")
            self.assertIn(answer, [[-6, kind, len(before)] for kind in range(2, 8)], end)
            self.ends_within(before + end)


if __name__ == "__main__":
    unittest.main()
