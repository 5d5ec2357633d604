"""The tests of quickways."""
