"""Meetings: machines that bring their parts together by messages that may be lost."""
