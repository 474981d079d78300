"""Rows by key in sorted runs, with snapshots."""
