"""Leasewatch: keys held for a time, and watchers told of each change."""
