"""Links with percent forms, query parts and marks."""
