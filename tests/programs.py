"""Drawn texts of programs, most of which keep the rules, and whose threads meet on channels."""

OPERATORS = ("+", "-", "*", "/", "mod", "and", "or", "==", "!=", "<", "<=")

PROCESSES = (
    "process pass(word n, channel c, channel d) { word x; repeat 3 while x != 9 { take c into x; give x + n to d; } }\n"
    "process count(word n, channel c) { array k[2]; k[1] = n; repeat 3 while k[1] { give k[1] to c; k[1] = k[1] - 1; } }\n"
    "process last(channel c, channel d) { word x; word y; repeat 2 while 1 { take c into x; y = y * 10 + x; } give y to d; }\n"
    "process twice(channel c, channel d) { channel e; together { call pass(1, c, e); call pass(10, e, d); } }\n"
)


class Visible:
    """The names that a block may use: words, arrays with sizes, channels to give on and to take from."""

    def __init__(self, words, arrays, gives, takes):
        self.words = words
        self.arrays = arrays
        self.gives = gives
        self.takes = takes


class Text:
    def __init__(self, rng):
        self.rng = rng
        self.names = 0

    def name(self, letter):
        self.names += 1
        return f"{letter}{self.names}"

    def expression(self, seen, depth=2):
        rng = self.rng
        kind = rng.randrange(8)
        if depth == 0 or kind < 3:
            return rng.choice(seen.words + [str(rng.choice((0, 1, 2, 3, 65535)))])
        if kind == 3 and seen.arrays:
            return self.item(seen)
        if kind == 4:
            return rng.choice(("-", "not ")) + self.operand(seen, depth)
        operator = rng.choice(("+", "-", "<", "==") if rng.random() < 0.8 else OPERATORS)
        return f"{self.operand(seen, depth)} {operator} {self.operand(seen, depth)}"

    def operand(self, seen, depth):
        return f"({self.expression(seen, depth - 1)})"

    def item(self, seen):
        name, size = self.rng.choice(seen.arrays)
        if self.rng.random() < 0.5:
            return f"{name}[{self.rng.randrange(size)}]"
        return f"{name}[{self.operand(seen, 1)} mod {self.rng.choice((size, size, size + 1))}]"

    def place(self, seen):
        return self.item(seen) if seen.arrays and self.rng.random() < 0.3 else self.rng.choice(seen.words)

    def block(self, seen, depth, many=None):
        """A block with words of its own."""
        rng = self.rng
        words = [self.name("w") for _ in range(rng.randrange(1, 3))]
        arrays = [(self.name("r"), rng.randrange(1, 4)) for _ in range(rng.choice((0, 0, 1)))]
        inner = Visible(seen.words + words, seen.arrays + arrays, seen.gives, seen.takes)
        rows = [f"word {word};" for word in words] + [f"array {name}[{size}];" for name, size in arrays]
        rows += [self.statement(inner, depth) for _ in range(many or rng.randrange(1, 4))]
        return "{ " + " ".join(rows) + " }"

    def statement(self, seen, depth):
        rng = self.rng
        kinds = ["assign", "assign", "give", "give", "take", "take", "skip"]
        if depth > 0:
            kinds += ["if", "repeat", "repeat", "either", "either", "block", "together", "together", "spread"]
        kind = rng.choice(kinds)
        if kind == "give" and seen.gives:
            return f"give {self.expression(seen)} to {rng.choice(seen.gives)};"
        if kind == "take" and seen.takes:
            return f"take {rng.choice(seen.takes)} into {self.place(seen)};"
        if kind == "if":
            return f"if {self.expression(seen)} {self.block(seen, depth - 1)} else {self.block(seen, depth - 1)}"
        if kind == "repeat":
            return f"repeat {rng.randrange(1, 4)} while {self.expression(seen)} {self.block(seen, depth - 1)}"
        if kind == "either" and seen.takes:
            return self.either(seen, depth)
        if kind == "block":
            return self.block(seen, depth - 1)
        if kind == "together":
            return self.together(seen, depth - 1)
        if kind == "spread":
            name = self.name("k")
            own = Visible([], [], [], [])
            return f"together for {name} from 1 to {rng.randrange(3)} {self.block(own, depth - 1)}"
        if kind == "skip":
            return "stop;" if rng.random() < 0.03 else "skip;"
        return f"{self.place(seen)} = {self.expression(seen)};"

    def either(self, seen, depth):
        rng = self.rng
        rows = []
        for channel in rng.sample(seen.takes, rng.randrange(1, len(seen.takes) + 1)):
            guard = f"when {self.expression(seen, 1)} " if rng.random() < 0.3 else ""
            rows.append(f"{guard}take {channel} into {self.place(seen)} then {self.block(seen, depth - 1)}")
        return "either { " + " ".join(rows) + " }"

    def together(self, seen, depth):
        """Branches that share the channels among them, and meet on new ones; the first has the words."""
        rng = self.rng
        many = rng.choice((2, 2, 3))
        new = [self.name("c") for _ in range(rng.randrange(1, 4))]
        gives = {c: rng.randrange(many) for c in seen.gives + new}
        takes = {c: rng.randrange(many) for c in seen.takes}
        takes.update({c: (gives[c] + 1) % many for c in new})
        branches = []
        for b in range(many):
            own_gives = [c for c in gives if gives[c] == b]
            own_takes = [c for c in takes if takes[c] == b]
            if own_gives and own_takes and rng.random() < 0.4:
                branches.append(self.call(own_takes[0], own_gives[-1]))
                continue
            words, arrays = (seen.words, seen.arrays) if b == 0 else ([], [])
            branches.append(self.block(Visible(words, arrays, own_gives, own_takes), depth))
        declared = " ".join([f"channel {c};" for c in new])
        return "{ " + declared + " together { " + " ".join(branches) + " } }"

    def call(self, taken, given):
        rng = self.rng
        return rng.choice((
            f"call pass({rng.randrange(5)}, {taken}, {given});", f"call count({rng.randrange(4)}, {given});",
            f"call last({taken}, {given});", f"call twice({taken}, {given});",
        ))


def draw_text(rng):
    """The text of a program, which may have too many braces, or break "size", "usage" or "work"."""
    ins = ["a", "f"][:rng.randrange(3)]
    outs = ["b", "g"][:rng.randrange(1, 3)]
    heads = (f"in {', '.join(ins)}; " if ins else "") + f"out {', '.join(outs)};\n"
    text = Text(rng)
    main = Visible(["x", "y"], [("z", 3)], outs, ins)
    rows = [text.together(main, 3), text.statement(main, 3), text.statement(main, 3)]
    rng.shuffle(rows)
    body = " ".join(rows)
    return f"program p {heads}{PROCESSES}main {{ word x; word y; array z[3]; {body} }}\n"
