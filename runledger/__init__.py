"""Runledger: what jump counts say about runs."""
