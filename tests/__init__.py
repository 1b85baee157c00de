"""The tests of fleuron."""
