"""A processor that does things out of order, run cycle by cycle."""
