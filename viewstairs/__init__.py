"""Viewstairs: of which moments refreshed views are."""
