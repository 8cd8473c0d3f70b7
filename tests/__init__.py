"""The tests of allbrought."""
