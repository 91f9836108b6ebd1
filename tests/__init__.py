"""The tests of writtenways."""
