"""Rows of measurements packed: the interface is stationpack.desk."""
