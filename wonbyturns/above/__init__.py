"""What bounds all endless rows from above, and rows that come near to this bound."""
