"""Guestcopies: meetings that come again, and each guest's own copy."""
