"""Letters taken by pattern out of a process's box."""
