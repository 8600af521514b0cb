"""The tests of soothcheck."""
