"""Executes an example of the document, as it stands there."""

MARK = ">>> "


def shown(text):
    """Return what the last line of code of an example shows, and what the example says it shows."""
    lines = text.strip().split("\n")
    code = [line[len(MARK):] for line in lines if line.startswith(MARK)]
    said = [line for line in lines if not line.startswith(MARK)]
    names = {}
    try:
        exec("\n".join(code[:-1]), names)
        found = repr(eval(code[-1], names))
    except ValueError as error:
        attributes = ", ".join(f"{name}={value!r}" for name, value in vars(error).items())
        found = f"raises {type(error).__name__}({attributes})"
    return found, "\n".join(said)
