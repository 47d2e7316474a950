"""Enough asked, enough told: one thing kept by several machines."""
