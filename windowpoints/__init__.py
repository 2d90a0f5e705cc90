"""Numbers that are cut out of a line by a window; the calls are in windowpoints.cut."""
