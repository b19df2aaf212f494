"""The tests of lonetill."""
