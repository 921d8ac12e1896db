"""The tests of handeddown, one file for each file of the package."""
