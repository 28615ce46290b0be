"""The tests of sweeprota."""
