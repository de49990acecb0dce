"""Two-sensor reporting system: cheapest zero-error codes, helper and query modes."""
