from tests.calling import CallingTest, in_main


class Blanks(CallingTest):
    def test_blanks_tabs_and_newlines_part_tokens(self):
        self.check_lines("proc\tmain\n(\t)\n{\n\n print\t7 ;\n}\n", 7)
        self.check_lines("\n\t proc main(){print 7;} \t\n", 7)

    def test_nothing_is_needed_between_tokens_that_end_by_themselves(self):
        self.check_lines("proc main(){int x;x=3;if(x)print-x;else print(x);}", -3)

    def test_tokens_that_run_together_are_one(self):
        self.check_refused("procmain() { }", -3)
        self.check_main_refused("int x; printx;", -3)
        self.check_main("int intx; intx = 4; print intx;", 4)

    def test_other_blank_bytes_are_no_tokens(self):
        for byte in ("\r", "\x0b", "\x0c", "\x00", "\x1f", "\x7f", "\x85", "\xa0", "\xff"):
            self.check_main_refused(f"print 1;{byte}", -3)

    def test_a_token_is_not_parted_by_a_blank(self):
        self.check_main_refused("print 1 = = 1;", -3)
        self.check_main_refused("print 1 & & 1;", -3)
        self.check_main_refused("pri nt 1;", -3)
        self.check_main_refused("print 1 2;", -3)


class Remarks(CallingTest):
    def test_what_is_behind_a_hash_is_not_there(self):
        self.check_lines("proc main() { # } print 2;\n print 1; }", 1)
        self.check_lines("#\n# first # second\nproc main() {} # the end")
        self.check_lines("proc main() {}#")

    def test_a_hash_parts_tokens(self):
        self.check_main("print#\n5;", 5)
        self.check_main_refused("pri#\nnt 5;", -3)

    def test_any_byte_may_stand_in_a_remark(self):
        every = "".join(chr(code) for code in range(256) if code != 10)
        self.check_main(f"# {every}\n print 1;", 1)

    def test_a_remark_ends_at_a_newline_alone(self):
        self.check_refused("proc main() { # \r }", -3)
        self.check_refused("# proc main() { }", -3)


class Numbers(CallingTest):
    def test_numbers_below_two_to_the_31(self):
        self.check_value("0", 0)
        self.check_value("2147483647", 2147483647)
        self.check_main_refused("print 2147483648;", -3)
        self.check_main_refused("print -2147483648;", -3)
        self.check_main_refused("print 9999999999;", -3)
        self.check_main_refused("print 4294967296;", -3)

    def test_ten_digits_at_most(self):
        self.check_value("0000000012", 12)
        self.check_value("0000000000", 0)
        self.check_main_refused("print 00000000012;", -3)
        self.check_main_refused("print 00000000000;", -3)
        self.check_main_refused("print " + "1" * 60000 + ";", -3)

    def test_a_number_too_large_is_refused_where_it_is_never_come_to(self):
        self.check_main_refused("if (0) print 2147483648;", -3)

    def test_digits_are_decimal(self):
        self.check_value("010", 10)
        self.check_main_refused("print 0x10;", -3)
        self.check_main_refused("print 1.0;", -3)
        self.check_main_refused("print 1_0;", -3)


class Names(CallingTest):
    def test_letters_digits_and_underlines(self):
        for name in ("a", "Z", "_", "_1", "a1b2", "azAZ09_", "Int", "PRINT", "printer", "If", "n" * 5000):
            self.check_main(f"int {name}; {name} = 6; print {name};", 6)

    def test_case_and_every_sign_count(self):
        self.check_main("int a; int A; a = 1; A = 2; print a; print A;", 1, 2)
        self.check_main("int ab; int ab_; ab = 1; ab_ = 2; print ab; print ab_;", 1, 2)

    def test_no_digit_first(self):
        self.check_main_refused("int 1a;", -3)
        self.check_main_refused("int 1;", -3)

    def test_other_letters_are_none(self):
        for name in ("\xe4", "a\xe4", "a$", "a.b", "a'", "@a"):
            self.check_main_refused(f"int {name};", -3)

    def test_kept_words_are_no_names(self):
        kept = "proc int chan skip stop if else while par alt run print".split()
        for word in kept:
            self.check_main_refused(f"int {word};", -3)
            self.check_main_refused(f"chan {word};", -3)
            self.check_main_refused(f"print {word};", -3)
            self.check_main_refused(f"run {word}();", -3)
            self.check_refused(f"proc {word}() {{ }} proc main() {{ }}", -3)
            self.check_refused(f"proc f(int {word}) {{ }} proc main() {{ }}", -3)

    def test_main_is_not_kept(self):
        self.check_main("int main; main = 3; print main;", 3)


class Signs(CallingTest):
    def test_the_longest_sign_that_fits(self):
        self.check_main("int x; x = 5; print x<=5; print x>=5; print x==5; print x!=5;", 1, 1, 1, 0)
        self.check_main_refused("chan c; int x; par { c != 1; c ? x; }", -3)
        self.check_main_refused("int x; x == 1;", -3)
        self.check_value("1!=!1", 1)
        self.check_main("int x; x=!1; print x;", 0)

    def test_a_condition_of_a_branch_is_followed_by_one_sign(self):
        self.check_main("alt { (1)&skip: print 1; }", 1)
        self.check_main_refused("alt { (1)&&skip: print 1; }", -3)

    def test_signs_that_are_none(self):
        for sign in ("|", "^", "~", "@", "$", "[", "]", ".", "'", '"', "`", "\\"):
            self.check_main_refused(f"print 1 {sign} 1;", -3)
            self.check_refused(in_main("") + sign, -3)

    def test_signs_of_other_languages(self):
        for sign in ("<<", ">>", "|", "&", "=", "**", "//", "=<", "<>", "===", "|||", "&&&"):
            self.check_main_refused(f"print 1 {sign} 1;", -3)
