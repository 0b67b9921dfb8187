"""The tests of partpicks."""
