"""Numbers found by asking: functions that nobody can look into, only ask."""
