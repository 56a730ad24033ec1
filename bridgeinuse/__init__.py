"""A bridge in use: a file of its parts, a lane over its spans, and the book of what they bore."""
