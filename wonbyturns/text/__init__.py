"""Values as texts, and a shell that is asked by lines."""
