"""The tests of Roundstairs."""
