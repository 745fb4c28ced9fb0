"""Days in eight calendars. The functions lie in eightcalendars.days."""
