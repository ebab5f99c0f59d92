"""The tests of crossgreen."""
