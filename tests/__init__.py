"""The tests of dayspread."""
