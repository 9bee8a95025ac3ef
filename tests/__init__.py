"""The tests of swarmwhole."""
