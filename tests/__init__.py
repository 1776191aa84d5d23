"""The tests of stillends; README.md says how to run them."""
