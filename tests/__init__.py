"""The tests of bestsbook."""
