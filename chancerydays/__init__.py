"""A chancery's days and books."""
