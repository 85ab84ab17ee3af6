"""The tests of Trickfares."""
