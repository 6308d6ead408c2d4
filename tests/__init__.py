"""The tests of placedanyhow."""
