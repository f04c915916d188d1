"""The errors that the program raises on purpose."""


class Refused(ValueError):
    """The base class of all errors that the program raises on purpose."""


class Malformed(Refused):
    """A text breaks the rules of the tokens or of the grammar at an index."""

    def __init__(self, module, at):
        super().__init__(f"module {module} is malformed at {at}")
        self.module = module
        self.at = at


class Oversized(Refused):
    """A limit of the language is exceeded."""

    def __init__(self, limit):
        super().__init__(f"too large: {limit}")
        self.limit = limit


class NoModule(Refused):
    """A module is needed that does not exist."""

    def __init__(self, name):
        super().__init__(f"there is no module {name}")
        self.name = name


class NoExport(Refused):
    """A module does not export a name that is asked of it."""

    def __init__(self, module, name):
        super().__init__(f"module {module} does not export {name}")
        self.module = module
        self.name = name


class Clashing(Refused):
    """A name is declared or exported twice."""

    def __init__(self, module, name):
        super().__init__(f"{name} clashes in module {module}")
        self.module = module
        self.name = name


class Unknown(Refused):
    """A name is not declared."""

    def __init__(self, module, name):
        super().__init__(f"{name} is unknown in module {module}")
        self.module = module
        self.name = name


class Fixed(Refused):
    """A name is the target of an assignment, but not a variable that may change."""

    def __init__(self, module, name):
        super().__init__(f"{name} is fixed in module {module}")
        self.module = module
        self.name = name


class Misused(Refused):
    """A space stands where a variable is needed, or the other way round."""

    def __init__(self, module, name):
        super().__init__(f"{name} is misused in module {module}")
        self.module = module
        self.name = name


class BadOption(Refused):
    """An option is none of those that exist."""

    def __init__(self, option):
        super().__init__(f"bad option: {option}")
        self.option = option


class Thrown(Refused):
    """A value is thrown inside a run."""

    def __init__(self, value):
        super().__init__("a value was thrown")
        self.value = value


class Weary(Refused):
    """The budget of a run is used up."""

    def __init__(self):
        super().__init__("the budget is used up")
