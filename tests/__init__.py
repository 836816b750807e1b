"""The tests of copyarms."""
