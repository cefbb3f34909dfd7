"""The tests of the program, all through its interface."""
