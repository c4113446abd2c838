"""RINGHELD: objects held by several houses of a ring."""
