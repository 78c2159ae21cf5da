"""Rows of several units that fit one another."""

from labelclocks.errors import BadRows
from labelclocks.heads import MOST_UNITS
from labelclocks.rows import is_rows
from labelclocks.values import has_doubles, is_list


def need_all_rows(all_rows):
    """Raises BadRows unless all_rows is a list of rows that fit one another, the first one with a main."""
    if not is_list(all_rows) or not 1 <= len(all_rows) <= MOST_UNITS or not all([is_rows(rows) for rows in all_rows]):
        raise BadRows("no list of rows")
    if has_doubles([rows[1] for rows in all_rows]) or len(set([rows[2] for rows in all_rows])) > 1:
        raise BadRows("a name stands twice, or sizes are unlike")
    if not [code for code in all_rows[0][5] if code[0] == "main" and code[1] == () and code[2] is None]:
        raise BadRows("no main")
    for rows in all_rows:
        for use in rows[3]:
            if met_code(all_rows, use) is None:
                raise BadRows("a use meets no code")


def met_code(all_rows, use):
    """The numbers of the rows and the code that a use meets, None if there are none."""
    for at, rows in enumerate(all_rows):
        for f, code in enumerate(rows[5]):
            if (rows[1],) + code[:3] == use:
                return at, f
    return None


def code_called(all_rows, at, callee):
    """The numbers of the rows and the code that a callee of the rows at an index is."""
    if callee[0] == "own":
        return at, callee[1]
    return met_code(all_rows, all_rows[at][3][callee[1]])


def main_of(all_rows):
    """The numbers of the rows and the code with which a run begins."""
    names = [code[0] for code in all_rows[0][5]]
    return 0, names.index("main")
