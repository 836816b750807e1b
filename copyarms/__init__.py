"""Copyarms: arms that copy drawings greater or less, turned or mirrored."""
