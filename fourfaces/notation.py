"""Notation: the texts of sheets, rows, programs, machines and traces."""


def text_of(lines):
    """The text of some lines, each of which ends with a line feed."""
    return "".join([line + "\n" for line in lines])


def line_of(words):
    """The line of some words."""
    return " ".join(words)


def truth_word(truth):
    """The word of a truth."""
    return "yes" if truth else "no"


def fact_line(fact):
    """The line of a fact."""
    words = [fact[0]]
    if fact[0] == "never":
        for ask, truth in fact[1]:
            words.extend([ask, truth_word(truth)])
    else:
        words.extend([fact[1], fact[2], fact[3], truth_word(fact[4])])
    return line_of(words)


def show_sheet(sheet):
    """The text of a sheet."""
    lines = [line_of(["cell", cell]) for cell in sheet.cells()]
    lines.extend([line_of(["ask", name] + list(cells)) for name, cells in sheet.asks()])
    lines.extend([line_of(["step", name] + list(cells) + [":"] + list(ends)) for name, cells, ends in sheet.steps()])
    lines.extend([fact_line(fact) for fact in sheet.facts()])
    return text_of(lines)


def lines_of(rows):
    """The lines of rows."""
    return [line for row in rows for line in row_lines(row)]


def parts_lines(kind, parts):
    """The lines of the cases of a do, or of the catches of a try: tuples of words and rows."""
    found = []
    for words, rows in parts:
        found.append(line_of([kind] + words))
        found.extend(lines_of(rows))
    return found


def row_lines(row):
    """The lines of a row, with those of the rows in it."""
    if row[0] == "do":
        if not row[2]:
            return [line_of(row[:2])]
        cases = parts_lines("case", [([case[0]], case[1]) for case in row[2]])
        return [line_of(["do", row[1], "of"])] + cases + ["end"]
    if row[0] == "if":
        return [line_of(row[:2])] + lines_of(row[2]) + ["else"] + lines_of(row[3]) + ["end"]
    if row[0] in ("loop", "block"):
        return [line_of(row[:2])] + lines_of(row[2]) + ["end"]
    if row[0] == "try":
        catches = parts_lines("catch", [(list(catch[0]), catch[1]) for catch in row[2]])
        return ["try"] + lines_of(row[1]) + catches + ["always"] + lines_of(row[3]) + ["end"]
    return [line_of(row)]


def show_rows(rows):
    """The text of rows."""
    return text_of(lines_of(rows))


def show_program(program):
    """The text of a program, without its sheet."""
    lines = ["program"] + lines_of(program.rows()) + ["end"]
    procedures = program.procedures()
    for name in procedures:
        lines.extend([line_of(["procedure", name])] + lines_of(procedures[name]) + ["end"])
    return text_of(lines)


def exit_text(told):
    """The words of an exit."""
    return line_of(told)


def point_line(row):
    """The line of a point."""
    if row[0] == "do":
        return line_of(["do", row[1]] + [f"{outcome}={goal}" for outcome, goal in row[2]])
    if row[0] == "out":
        return line_of(["out", exit_text(row[1])])
    return line_of([str(part) for part in row])


def show_machine(machine):
    """The text of a machine, without its sheet."""
    return text_of([point_line(row) for row in machine.points()])


def truth_words(answers):
    """The words of answers."""
    return [truth_word(truth) for truth in answers]


def show_trace(trace):
    """The text of a trace."""
    lines = [line_of(["at"] + truth_words(trace[0]))]
    lines.extend([line_of([step, outcome] + truth_words(answers)) for step, outcome, answers in trace[1]])
    return text_of(lines)
