"""Composition of data mappings. The calls come in by middlerules.steps."""
