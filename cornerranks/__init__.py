"""Cornerranks: tables that are told by few numbers away from the middle."""
