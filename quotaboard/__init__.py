"""Quotaboard: votes on connected issues, decided by quotas."""
