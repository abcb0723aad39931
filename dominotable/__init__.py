"""A dominoes table, watched."""
