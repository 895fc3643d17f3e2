"""The tests of graphsame."""
