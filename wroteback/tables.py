"""All small tables."""


def all_tables(stands, written):
    """Return the ascending list of all tables with two letters, so many stands and so many written letters."""
    steps = [(behind, wrote) for behind in range(stands) for wrote in range(written)]
    rows = [(one, other) for one in steps for other in steps]
    tables = [()]
    for _ in range(stands):
        tables = [(*table, row) for table in tables for row in rows]
    return tables
