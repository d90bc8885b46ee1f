"""The tests of the package; run them with python3 -m unittest."""
