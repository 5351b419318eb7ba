"""The tests of keywait."""
