"""Gentlerounds: a crawler that is polite at each moment, and as fresh as any polite one can be."""
