"""Runs an example in the form in which the document prints it."""

PROMPT = ">>> "
RAISES = "raises "


def shown_error(error):
    """InvalidRow(index=2), or the bare name of a class without an attribute."""
    parts = [f"{name}={value!r}" for name, value in vars(error).items()]
    name = type(error).__name__
    return f"{name}({', '.join(parts)})" if parts else name


def outcome(example):
    """Return what the last line of the example gives, and what the example prints for it."""
    lines = example.strip("\n").split("\n")
    code = [line[len(PROMPT):] for line in lines if line.startswith(PROMPT)]
    printed = "\n".join(line for line in lines if not line.startswith(PROMPT))
    names = {}
    for line in code[:-1]:
        exec(line, names)
    if printed.startswith(RAISES):
        try:
            return repr(eval(code[-1], names)), printed
        except Exception as error:
            return RAISES + shown_error(error), printed
    return repr(eval(code[-1], names)), printed
