"""Afloat: what a hull displaces, how deep she floats, whether she stands. The calls are in hullafloat.desk."""
