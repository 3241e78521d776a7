"""Wovenway: rows that are a rising one and a falling one woven."""
