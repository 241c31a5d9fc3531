"""Roundstairs: books of words read round a ring, by stairs of rooms."""
