"""Trendhouse: what rises, falls or stands, and what may come next."""
