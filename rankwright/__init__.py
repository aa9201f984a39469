"""Rankwright: matroids with witnesses."""
