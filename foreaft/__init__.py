"""Foreaft: functions on words by machines that read from both ends."""
