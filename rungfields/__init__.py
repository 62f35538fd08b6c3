"""All fields over a prime's rests as one arithmetic."""
