"""Plantrace: production planning, traceability and exact recall analysis."""
