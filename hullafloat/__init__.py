"""Afloat: what a hull displaces, and where the middle of that lies. The calls are in hullafloat.desk."""
