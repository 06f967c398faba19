"""The tests of whichhouse."""
