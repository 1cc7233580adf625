"""The tests of the program; run them with python3 -m unittest."""
