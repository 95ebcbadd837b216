"""The tests of tailranks."""
