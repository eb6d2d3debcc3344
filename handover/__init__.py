"""Processes that run beside one another and hand numbers over channels."""
