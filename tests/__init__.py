"""The tests of gridsteps."""
