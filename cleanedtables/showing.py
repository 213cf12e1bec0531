"""Showing: a program written as a text."""

from cleanedtables.rowforms import THEN_FORM, source_form, step_form, table_form, written_by


def show_program(program):
    """Tell the text of a program."""
    rows = [source_words(name, shape) for name, shape in program[0]]
    for name, origin, steps, behinds in program[1]:
        rows.append(["table", name, origin[0]] + written_by(table_form(origin[0]), origin[1:]))
        rows.extend([step_words(step) for step in steps])
        rows.extend([["then"] + written_by(THEN_FORM, pair) for pair in behinds])
    return "\n".join([" ".join(words) for words in rows])


def source_words(name, shape):
    """Tell the words of a source."""
    parts = shape[1:]
    if shape[0] == "places":
        parts = [list(zip(shape[2], shape[1]))]
    return ["source", name, shape[0]] + written_by(source_form(shape[0]), parts)


def step_words(step):
    """Tell the words of a step."""
    name, word, *parts = step
    if word == "read":
        column, form, new = parts
        parts = [column, *form, new]
    # Of read what stands second is the first word of its form.
    second = parts[1] if len(parts) > 1 else None
    return ["step", name, word] + written_by(step_form(word, second), parts)
