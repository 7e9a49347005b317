"""The tests of cushionshots."""
