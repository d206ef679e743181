"""Legsteps: step rules over several old steps, for all equations."""
