"""Planehall: a kernel of plane geometry, exactly."""
