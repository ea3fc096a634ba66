"""The rows of a desk: the deeds that they do, and the questions that they ask.

Each row is read to its end before anything is done or asked.
"""

from editlots.errors import Gaps
from editlots.forced import could, forced
from editlots.headings import read_state, states_text
from editlots.historytexts import print_history
from editlots.judge import why
from editlots.ruletexts import rules_by, told_by
from editlots.tables import first_gap
from editlots.told import fallen
from editlots.words import figures_fit, Reader, spaced, spaced_or_stroke


def start_row(desk, reader):
    """start BRANCH LOT"""
    name = read_branch(reader)
    lot = read_lot(reader)
    reader.end()
    desk.branches.start(name, lot)
    return "ok"


def commit_row(desk, reader):
    """commit BRANCH RECORD"""
    name = read_branch(reader)
    record = tuple([read_state(reader, names) for names in desk.names])
    reader.end()
    edit = desk.branches.commit(name, record)
    return f"ok {edit}"


def merge_row(desk, reader):
    """merge BRANCH BRANCH"""
    name = read_branch(reader)
    other = read_branch(reader)
    reader.end()
    desk.branches.merge(name, other)
    return "ok"


def pick_row(desk, reader):
    """pick BRANCH N"""
    name, edit = read_branch_and_edit(reader)
    desk.branches.pick(name, edit)
    return "ok"


def out_row(desk, reader):
    """out BRANCH N"""
    name, edit = read_branch_and_edit(reader)
    desk.branches.take_out(name, edit)
    return "ok"


def drop_row(desk, reader):
    """drop BRANCH"""
    desk.branches.drop(read_last_branch(reader))
    return "ok"


def back_row(desk, reader):
    """back"""
    reader.end()
    desk.branches.back()
    return "ok"


def again_row(desk, reader):
    """again"""
    reader.end()
    desk.branches.again()
    return "ok"


def head_row(desk, reader):
    """head BRANCH"""
    return spaced_or_stroke(desk.branches.head(read_last_branch(reader)))


def record_row(desk, reader):
    """record BRANCH"""
    record = desk.vault.record(desk.branches.head(read_last_branch(reader)))
    return " ".join([states_text(names, (state,)) for names, state in zip(desk.names, record)])


def barred_row(desk, reader):
    """barred BRANCH"""
    return spaced_or_stroke(desk.vault.barred(desk.branches.head(read_last_branch(reader))))


def names_row(desk, reader):
    """names"""
    reader.end()
    return spaced_or_stroke(desk.branches.names())


def log_row(desk, reader):
    """log BRANCH"""
    log = desk.branches.log(read_last_branch(reader))
    return " | ".join([f"{edit}: {steps_text(steps)}" for edit, steps in log]) if log else "-"


def judge_row(desk, reader):
    """judge RULES"""
    names, table = rules_by(reader)
    gap = first_gap(table)
    if gap is not None:
        raise Gaps(tuple([names[state] for state in gap]))
    paper = why(table)
    if paper[0] == "clocks":
        return "clocks " + spaced_or_stroke(paper[1])
    _, history, i, j = paper
    return f"clash {print_history(names, history)} | {i} {j}"


def ask_row(desk, reader):
    """ask TOLD | NAME NAME NAME"""
    names, told = told_by(reader, "|")
    reader.take_word("|")
    o = read_state(reader, names)
    a = read_state(reader, names)
    b = read_state(reader, names)
    reader.end()
    pair = fallen(told)
    if pair is not None:
        return "fallen " + states_text(names, pair)
    state = forced(told, o, a, b)
    if state is not None:
        return "forced " + names[state]
    return "could " + spaced_or_stroke([names[c] for c in could(told, o, a, b)])


ROWS = {
    "start": start_row, "commit": commit_row, "merge": merge_row, "pick": pick_row, "out": out_row, "drop": drop_row,
    "back": back_row, "again": again_row, "head": head_row, "record": record_row, "barred": barred_row,
    "names": names_row, "log": log_row, "judge": judge_row, "ask": ask_row,
}


def answer(desk, text):
    """Do or ask what the row tells, and return what is told of it."""
    reader = Reader(text)
    _, word = reader.take(begins_row)
    action = ROWS[word]
    return action(desk, reader)


def begins_row(word):
    """Whether a row can begin with this word."""
    return word in ROWS


def refusal(called, what):
    """What is told of a row that is refused by an error called so, of what it keeps."""
    told = spaced(what) if isinstance(what, tuple) else str(what)
    return f"refused: {called} {told}"


def read_branch(reader):
    """The name of a branch that stands next."""
    return reader.take_name()[1]


def read_last_branch(reader):
    """The name of a branch that stands at the end."""
    name = read_branch(reader)
    reader.end()
    return name


def read_branch_and_edit(reader):
    """The name of a branch and the number of an edit that stand at the end."""
    name = read_branch(reader)
    edit = reader.take_figures()
    reader.end()
    return (name, edit)


def read_lot(reader):
    """The numbers of the lot that stands next."""
    if reader.word() == "-":
        reader.take_word("-")
        return ()
    lot = [reader.take_figures()]
    while figures_fit(reader.word()):
        lot.append(reader.take_figures())
    return tuple(lot)


def steps_text(steps):
    """The steps of an edit, field by field."""
    return " / ".join([spaced_or_stroke(step) for step in steps])
