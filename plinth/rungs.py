"""The texts from which the tower grows, their kinds and their makers."""

from plinth.errors import NoRung

_NAMES = ("first", "second", "plain", "turned")
_KINDS = {"first": "digits", "second": "short", "plain": "plain", "turned": "plain"}
_MAKERS = {"first": "seed", "second": "first", "plain": "second", "turned": "second"}

# A translator of short, as the cells of its nodes. The store keeps the code
# that was read last at `c` (99), and m and r at `m` (109) and `r` (114). The
# run ends at 999.
_FIRST = (
    # 0: reads a code, ends if it is negative, and leaves out blanks.
    "0 44 0 1 1 61 99 2 2 99 0 3 3 35 0 4 4 60 0 5 5 63 6 999\n"
    "6 99 0 7 7 35 33 8 8 60 0 9 9 63 10 0\n"
    # 10: a digit is put behind r.
    "10 35 47 11 11 99 0 12 12 60 0 13 13 99 0 14 14 35 58 15 15 60 0 16\n"
    "16 42 0 17 17 35 11 18 18 126 0 19 19 63 25 20\n"
    "20 114 0 21 21 99 0 22 22 35 48 23 23 45 0 24 24 42 0 68\n"
    # 25: `:` puts r into m.
    "25 99 0 26 26 35 58 27 27 126 0 28 28 63 31 29\n"
    "29 114 0 30 30 61 109 67\n"
    # 31: `>` pushes r, 0 and 32.
    "31 99 0 32 32 35 62 33 33 126 0 34 34 63 38 35\n"
    "35 114 0 36 36 35 0 37 37 35 32 58\n"
    # 38: the quote reads a code, and pushes m + 1, the code and 35.
    "38 99 0 39 39 35 39 40 40 126 0 41 41 63 53 42\n"
    "42 44 0 43 43 61 99 44 44 99 0 45 45 35 0 46 46 60 0 47 47 63 48 999\n"
    "48 109 0 49 49 35 1 50 50 43 0 51 51 99 0 52 52 35 35 58\n"
    # 53: any other code pushes m + 1, r and itself.
    "53 109 0 54 54 35 1 55 55 43 0 56 56 114 0 57 57 99 0 58\n"
    # 58: writes m and what was pushed, and adds 1 to m.
    "58 109 0 59 59 46 0 60 60 46 0 61 61 46 0 62 62 46 0 63\n"
    "63 109 0 64 64 35 1 65 65 43 0 66 66 61 109 67\n"
    # 67: r becomes 0; 68: r becomes what is on the stack.
    "67 35 0 68 68 61 114 0\n"
)

# A translator of twig with the default numbers. The stack is the pile. The
# store keeps the code that was read last at `c` (99), m and k at `m` (109)
# and `k` (107), and a number of the pile at `t` (116). The run ends at 999.
_SECOND = (
    # The start.
    "200#107=A109=0#.32#.0#.m.\n"
    # 12: reads a code; 14: ends if it is negative; 22: leaves out blanks.
    ",99=\n"
    "c0#<22?0#41#G999>\n"
    "c33#<27?12>\n"
    # 27: a numeral; its value stays on the stack.
    "Y111?0#\n"
    "c48#-*,99=Y39?30>\n"
    "35#G14>\n"
    # A takes a number; G emits the operation and the argument on the stack.
    "65:kk1#+107=)\n"
    "71:m...A\".109=)\n"
    # P reads a code that is skipped, or leaves for the end of the program.
    "80:,99=c0#<87?14>\n"
    ")\n"
    # X goes on at 99: it leads to the number on the stack, which becomes m.
    "88:99>\n"
    # Y pushes whether the code is a digit.
    "89:'/c<c':<*11#~)\n"
    "116=m.32#.0#.t.t109=)\n"
    # 111: the signs, one after the other.
    "c''~120?Pc35#G12>\n"
    "c'=~129?Pc61#G12>\n"
    "c':~138?Pmc109=12>\n"
    "c'[~147?A\"63#G12>\n"
    "c'|~156?AX109=t12>\n"
    "c']~162?X12>\n"
    "c'{~170?A\"X12>\n"
    "c'}~186?116=Am.63#.\".t.109=12>\n"
    "c';~200?m.41#.0#.1#.109=12>\n"
    "0#cG12>\n"
)

# The two texts in twig differ only in how they begin: T takes a number, and
# the store gets the first one at `k`.
_PLAIN_BEGINNING = (
    ":Tkk1+=k;\n"
    "200=k\n"
)
_TURNED_BEGINNING = (
    ":Tkk1-=k;\n"
    "0 1-=k\n"
)

# The stack is the pile. The store keeps the code that was read last at `c`,
# m and k at `m` and `k`, and a number of the pile at `t`.
_TWIG = (
    # E emits the operation and the argument on the stack.
    ":Em...T\".=m;\n"
    # J leads to the number on the stack, which becomes m.
    ":J=tm.32.0.t.t=m;\n"
    # H pushes whether the program goes on; N reads a code and does the same.
    ":Hc0<0~;\n"
    ":N,=cH;\n"
    # D pushes whether the code is a digit.
    ":D47c<c58<*11~;\n"
    # S handles any other code.
    ":S\n"
    "c''~[N[c35E]|\n"
    "c'=~[N[c61E]|\n"
    "c':~[N[mc=m]|\n"
    "c'[~[T\"63E|\n"
    "c'|~[TJ=mt|\n"
    "c']~[J|\n"
    "c'{~[T\"J|\n"
    "c'}~[=tTm.63.\".t.=m|\n"
    "c';~[m.41.0.1.=m|\n"
    "32c<[0cE]\n"
    "]]]]]]]]];\n"
    # A numeral ends with a code that was read, everything else does not. At
    # the start `c` is 0, a blank.
    "T=m0.32.0.m.\n"
    "{D[0{c48-*,=cD}35E|SH[,=c]]H}\n"
    "0 41E\n"
)


def _check_name(name):
    if name not in _NAMES:
        raise NoRung(name)


def rung_names():
    """Returns the names of the binaries that have a text."""
    return list(_NAMES)


def rung_text(name):
    """Returns the program's text of a binary."""
    _check_name(name)
    if name == "first":
        return _FIRST
    if name == "second":
        return _SECOND
    if name == "plain":
        return _PLAIN_BEGINNING + _TWIG
    return _TURNED_BEGINNING + _TWIG


def rung_kind(name):
    """Returns the kind of the text of a binary."""
    _check_name(name)
    return _KINDS[name]


def rung_maker(name):
    """Returns the name of the binary that makes a binary of its text."""
    _check_name(name)
    return _MAKERS[name]
