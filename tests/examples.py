"""Runs examples in the form of the interface: rows behind >>>, then what the last one returns or raises."""

from wornbridges.errors import BridgeError


def run_example(text):
    """Run an example and return (what it gave, what it should give) as strings."""
    lines = text.strip().split("\n")
    rows = [line[4:] for line in lines if line.startswith(">>> ")]
    wanted = [line for line in lines if not line.startswith(">>> ")]
    names = {}
    try:
        for row in rows[:-1]:
            exec(row, names)
        if wanted and wanted[0].startswith("raises "):
            exec(rows[-1], names)
            given = "raises nothing"
        else:
            given = repr(eval(rows[-1], names))
    except BridgeError as error:
        given = f"raises {shown(error)}"
    return given, "\n".join(wanted)


def shown(error):
    """Return an error with its attributes, as the interface writes it."""
    attributes = ", ".join(f"{name}={worth!r}" for name, worth in vars(error).items())
    return f"{error.__class__.__name__}({attributes})"
