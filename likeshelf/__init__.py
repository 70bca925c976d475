"""Likeshelf: pictures kept by likeness told exactly."""
