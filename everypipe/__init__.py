"""Everypipe: a shell and job runner in which one run tells all."""
