"""Satchelmeet: letters carried by those who meet at told times."""
