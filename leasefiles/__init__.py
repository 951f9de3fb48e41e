"""Leasefiles: a file server with leases."""
