"""Duewrits: dues and grants by written rules, twice dated."""
