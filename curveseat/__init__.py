"""Curveseat: curves told by few points, exactly."""
