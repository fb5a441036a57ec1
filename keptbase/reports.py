"""The report of a desk (point 110)."""

from keptbase.rows import row_text


def report(desk):
    """Return a string of lines that tell the newest store, the commits, their serial order and the kept answers."""
    lines = [f"version {desk.version}, mode {desk.mode}"]
    for table, key, row in desk.newest:
        lines.append(f"{table} {key}: {row_text(row)}")
    for at, (name, seen) in enumerate(zip(desk.names, desk.as_history().seen)):
        lines.append(f"commit {at + 1:>2} {name} seen {seen}")
    lines.append(" ".join(["serial:", *desk.serial()]))
    for name in desk.kept_names:
        lines.append(f"kept {name}: {desk.kept(name)!r}")
    return "".join([f"{line}\n" for line in lines])
