"""Made modules: sets of modules that need each other in all ways, and programs that run in them."""

MODULES = ("a", "b", "c", "d")
# The first letter of a name tells what its variable mostly holds: numbers, truth values, functions.
TOPS = ("n", "n1", "n2", "n3", "t", "t1", "f", "f1", "f2")


def graphs(draw):
    """Make modules of imports and exports only, which refer to anything that is there or not."""
    names = ("x", "y", "z")
    modules = {}
    for module in MODULES:
        rows = []
        for _ in range(draw.randrange(1, 6)):
            pairs = ", ".join(f"{draw.choice(names)} as {draw.choice(names)}" for _ in range(draw.randrange(1, 3)))
            other = draw.choice(MODULES)
            name = draw.choice(names)
            rows.append(draw.choice((
                f'import {{{pairs}}} from "{other}";', f'export {{{pairs}}} from "{other}";', f"export {{{pairs}}};",
                *[f'export * from "{other}";'] * 6, f'import * as {name} from "{other}";', f"let {name} = 1;",
                *[f"export let {name} = 1;"] * 3, f"export fun {name}() {{}}",
            )))
        modules[module] = " ".join(rows)
    modules["a"] += "".join(f'import "{module}";' for module in MODULES)
    return modules


class Maker:
    """Makes the modules of a program. Names stand for what surely is declared and exported."""

    def __init__(self, draw):
        self.draw = draw
        self.scopes = []
        self.members = []
        self.functions = 0

    def chance(self, percents):
        return self.draw.randrange(100) < percents

    def modules(self, count):
        """Make modules; each may import from each, but only from what a module declares or has from another one."""
        names = MODULES[:count]
        tops = {name: self.draw.sample(TOPS, self.draw.randrange(2, len(TOPS))) for name in names}
        exports = {name: {f"{top}_{name}" if self.chance(30) else top: top for top in tops[name] if self.chance(70)} for name in names}
        modules = {}
        for name in names:
            modules[name] = self.module(name, tops[name], exports)
        return modules

    def module(self, name, tops, exports):
        rows = [f"export {{{local} as {outer}}};" for outer, local in exports[name].items()]
        self.scopes = [{top: "later" for top in tops}]
        self.members = []
        self.functions = 0
        taken = dict(exports[name])
        for other in exports:
            if self.chance(70 if other > name else 15) or (name == MODULES[0] and other != name):
                rows.append(self.import_of(other, exports[other]))
            if other != name and self.chance(30):
                rows.extend(self.exports_from(other, exports[other], taken))
        for top in tops:
            if top[0] == "f" and self.chance(70):
                self.scopes[0][top] = "fun"
        rows.extend(self.declaration(top, self.draw.choice((0, 1, 3)) if self.chance(20) else None) for top in tops)
        if self.chance(15):
            self.draw.shuffle(rows)
        if self.chance(8):
            rows.append("repeat 7 {} " * self.draw.randrange(20, 29))
        for _ in range(self.draw.randrange(1, 6)):
            row = self.statement(4)
            rows.append(row if self.chance(10) else f"try {{ {row} }} catch e {{ tell e; }}")
        return "\n".join(rows)

    def import_of(self, other, exports):
        form = self.draw.randrange(3)
        if form == 0:
            return f'import "{other}";'
        if form == 1:
            space = f"s_{other}"
            self.scopes[0][space] = "space"
            self.members += [(space, outer) for outer in exports]
            return f'import * as {space} from "{other}";'
        pairs = []
        for outer in exports:
            if self.chance(60):
                self.scopes[0][f"{outer}_i{other}"] = "import"
                pairs.append(f"{outer} as {outer}_i{other}")
        return f'import {{{", ".join(pairs)}}} from "{other}";'

    def exports_from(self, other, exports, taken):
        """Make a star, or pairs under names that are not taken in this module."""
        if self.chance(30):
            return [f'export * from "{other}";']
        pairs = []
        for outer in exports:
            if f"{outer}_r" not in taken and self.chance(30):
                taken[f"{outer}_r"] = True
                pairs.append(f"{outer} as {outer}_r")
        return [f'export {{{", ".join(pairs)}}} from "{other}";']

    def visible(self, letter, *kinds):
        """Return the names of variables of some kinds that begin with a letter."""
        found = {}
        for scope in self.scopes:
            found.update(scope)
        # A let that still comes is used now and then, because this throws.
        if self.chance(1):
            kinds = (*kinds, "later")
        return [name for name, kind in found.items() if kind in kinds and name[0] == letter]

    def declaration(self, name, deep):
        """Make a declaration; without a depth, one that surely gives its variable a value."""
        if self.scopes[-1][name] == "fun":
            return f"fun {name}{self.function(3 if deep is None else deep)}"
        kinds = {"n": self.number, "t": self.truth, "f": self.function_value}
        text = f"let {name} = {kinds[name[0]](0) if deep is None else self.expression(name[0], deep)};"
        self.scopes[-1][name] = "let"
        return text

    def function(self, deep):
        parameters = self.draw.sample(("n", "n4", "f", "t"), self.draw.randrange(3))
        self.scopes.append({name: "param" for name in parameters})
        self.functions += 1
        text = f"({', '.join(parameters)}) {self.block(deep - 1, True)}"
        self.functions -= 1
        self.scopes.pop()
        return text

    def block(self, deep, last=False):
        """Make a block; if it is the last of a function, a return mostly ends it."""
        names = self.draw.sample(("n", "n5", "n6", "t", "f", "f3"), self.draw.choice((0, 0, 1, 1, 2, 3)))
        self.scopes.append({name: "fun" if name[0] == "f" and self.chance(60) else "later" for name in names})
        rows = [self.declaration(name, deep - 1) for name in names]
        rows += [self.statement(deep - 1) for _ in range(self.draw.randrange(0, 4))]
        if self.chance(8):
            self.draw.shuffle(rows)
        if last and self.chance(80):
            rows.append(f"return {self.expression('n', deep - 1)};")
        self.scopes.pop()
        return f"{{ {' '.join(rows)} }}"

    def statement(self, deep):
        kind = self.draw.randrange(11 if deep > 0 else 5)
        if kind < 2:
            letter = self.draw.choice("nnntf")
            names = self.visible(letter, "let", "param", "catch")
            if names:
                return f"{self.draw.choice(names)} = {self.expression(letter, deep)};"
        if kind == 3 and self.functions and self.chance(40):
            return f"return {self.expression('n', deep)};"
        if kind == 4:
            return f"{self.call(deep)};" if self.chance(80) else f"throw {self.expression('n', deep)};"
        if kind < 6:
            return f"tell {self.expression(self.draw.choice('nnntf'), deep)};"
        if kind < 8:
            return self.guarded(deep)
        if kind == 8:
            other = f" else {self.block(deep - 1)}" if self.chance(50) else ""
            return f"if {self.expression('t', deep)} {self.block(deep - 1)}{other}"
        if kind == 9:
            return f"repeat {self.draw.choice((self.draw.randrange(5), self.expression('n', 1)))} {self.block(deep - 1)}"
        return self.block(deep - 1)

    def guarded(self, deep):
        name = self.draw.choice(("n", "n7", "e"))
        first = self.block(deep - 1)
        self.scopes.append({name: "catch"})
        text = f"try {first} catch {name} {{ tell {name}; {self.block(deep - 1)} }}"
        self.scopes.pop()
        return text

    def call(self, deep):
        function = self.expression("f", deep - 1) if self.chance(95) else self.expression("n", 0)
        if function.startswith("fun"):
            function = f"({function})"
        arguments = ", ".join(self.expression(self.draw.choice("nnft"), deep - 1) for _ in range(self.draw.randrange(3)))
        return f"{function}({arguments})"

    def expression(self, letter, deep):
        if self.chance(2):
            letter = self.draw.choice("ntfo")
        if letter == "o":
            return self.draw.choice(("none", *self.visible("e", "catch")))
        kinds = ("let", "fun", "param", "catch", "import")
        names = self.visible(letter, *kinds) + [f"{space}.{name}" for space, name in self.members
                                                if name[0] == letter and self.scopes[0].get(space) == "space"]
        if names and self.chance(50 if deep > 0 else 80):
            return self.draw.choice(names)
        return {"n": self.number, "t": self.truth, "f": self.function_value}[letter](deep)

    def number(self, deep):
        kind = self.draw.randrange(6) if deep > 0 else 5
        if kind == 5:
            return str(self.draw.choice((0, 1, 2, 3, 9, 65535)))
        if kind == 0:
            return f"ask({self.expression('n', deep - 1)})"
        if kind == 1:
            return self.call(deep)
        return f"({self.expression('n', deep - 1)} {self.draw.choice('+-*')} {self.expression('n', deep - 1)})"

    def truth(self, deep):
        kind = self.draw.randrange(5) if deep > 0 else 4
        if kind == 4:
            return self.draw.choice(("true", "false"))
        if kind == 0:
            return f"(not {self.expression('t', deep - 1)})"
        if kind == 1:
            return f"({self.expression('t', deep - 1)} {self.draw.choice(('and', 'or'))} {self.expression('t', deep - 1)})"
        letter = "n" if kind == 2 else self.draw.choice("ntfo")
        return f"({self.expression(letter, deep - 1)} {'<' if kind == 2 else '=='} {self.expression(letter, deep - 1)})"

    def function_value(self, deep):
        if deep > 0 or self.chance(10):
            return f"fun{self.function(deep)}"
        return "fun(n) { return n + 1; }"
